"""Values that are wrong for a parameter, and how to see which error they lead to."""

import unittest
from fractions import Fraction

from legsteps.errors import InvalidStarts
from samples import FRACTIONS, HALF, HUGE, NIL, ODD_PAIRS, ODD_ROWS, ODD_VALUES, ONE, TWO

ORIGIN = (NIL, NIL)

# None of these is a polynomial.
ODD_POLYNOMIALS = ODD_VALUES + ODD_PAIRS + ODD_ROWS + FRACTIONS + (
    (NIL,), (ONE, NIL), (NIL, NIL), (ONE, HALF, NIL, NIL), [], [ONE], [ONE, TWO], (ONE, [1, 1]), ([0, 1], ONE), (ONE, None),
    (ONE, (2, 2)), ((2, 4), ONE), (ONE, (1, 0)), ((1, -1), ONE), (ONE, (0, 2)), (ONE, (True, 1)), ((1, True), ONE),
    (ONE, 1), (1, ONE), ((ONE,),), ((1, 1, 1),), ((1,), ONE), (ONE, ORIGIN), ("", ONE), (ONE, "11"), ((NIL, ONE), (ONE, NIL)),
    {ONE: ONE}, (ONE,) * 40 + (NIL,), (ONE,) * 40 + ((3, 3),), (ONE, ()), ((), ONE),
)
ODD_POINTS = ODD_VALUES + ODD_PAIRS + ODD_ROWS + FRACTIONS + ((), (ONE,), (ONE, ONE, ONE), [ONE, ONE], (ONE, (2, 2)), ((0, 2), ONE))

# None of these is a rule. (The last one of the odd values is a pair of points, and as such a rule.)
ODD_RULES = ODD_VALUES[:-1] + ODD_PAIRS + ODD_ROWS + FRACTIONS + (
    ((ONE,), (ONE,)), ((ONE,) * 10, (ONE,) * 10), ((), ()), ((ONE, ONE), (ONE,)), ((ONE,), (ONE, ONE)),
    ((ONE, ONE), (ONE, ONE, ONE)), ((ONE,) * 9, (ONE,) * 10), ((ONE, NIL), (ONE, ONE)), ((NIL, NIL), (NIL, NIL)),
    ((ONE,) * 8 + (NIL,), (ONE,) * 9), [(ONE, ONE), (ONE, ONE)], ([ONE, ONE], (ONE, ONE)), ((ONE, ONE), [ONE, ONE]),
    ((ONE, [1, 1]), (ONE, ONE)), ((ONE, ONE), ([0, 1], ONE)), ((ONE, (2, 2)), (ONE, ONE)), ((ONE, ONE), (ONE, (2, 4))),
    ((ONE, ONE), ((0, 2), ONE)), (((1, -1), ONE), (ONE, ONE)), ((ONE, (True, 1)), (ONE, ONE)), ((ONE, ONE), (ONE, (1, True))),
    ((ONE, ONE), ((False, 1), ONE)), ((ONE, 1), (ONE, ONE)), ((1, 1), (1, 1)), ((ONE, ONE),), ((ONE, ONE), (ONE, ONE), (ONE, ONE)),
    ((ONE, ONE), None), (None, (ONE, ONE)), ((ONE, ONE), ONE), (ONE, ONE), ((ONE, None), (ONE, ONE)), ("11", "11"),
    {(ONE, ONE): 1, (ONE, TWO): 2}, ((ONE, Fraction(1)), (ONE, ONE)), ((ONE, ONE), (ONE, Fraction(1, 2))),
    ((ONE, (1, 0)), (ONE, ONE)), ((ONE, ORIGIN), (ONE, ONE)), ((ONE, ONE), (ONE, ())),
)


# What is no tuple of two elements, or not one of fractions, with the index of the error.
ODD_STARTS = (
    (None, None), (True, None), (0, None), ("ab", None), ([ONE, ONE], None), ((), None), ((ONE,), None), ((ONE, ONE, ONE), None),
    ((None,), None), ({}, None), (range(2), None), ((None, None), 0), ((None, ONE), 0), ((ONE, None), 1), ((ONE, [1, 1]), 1),
    (((2, 2), (3, 3)), 0), ((ONE, (3, 3)), 1), ((ONE, (0, 2)), 1), ((ONE, 1), 1), ((1, ONE), 0), ((ONE, (1, True)), 1), (ONE, 0),
    ((NIL, (NIL, NIL)), 1), ((Fraction(1), ONE), 0), (((1, -1), ONE), 0), (((1, 0), ONE), 0), (((),) * 2, 0), ("", None),
)
# None of these is a fraction; none of those that follow is a fraction above 0.
ODD_FRACTIONS = ODD_VALUES + ODD_PAIRS + ODD_ROWS + (ORIGIN, (ONE,), (1, 2, 3), ((1,), (2,)))
ODD_ABOVE_0 = ODD_FRACTIONS + (NIL, (-1, 1), (-1, 2), (-HUGE, 3), (-1, HUGE))


def odd_numbers(least, greatest):
    """What is no whole number from the least to the greatest one."""
    numbers = [each for each in ODD_VALUES if isinstance(each, bool) or not isinstance(each, int)]
    return numbers + list(FRACTIONS) + [least - 1, greatest + 1, -greatest - 1, HUGE, -HUGE, Fraction(least), str(least)]


class WrongCase(unittest.TestCase):

    def check_raises(self, kind, given, function, *told, **named):
        """Just this class of errors is raised, and keeps just this value."""
        with self.assertRaises(kind) as caught:
            function(*told, **named)
        self.assertIs(caught.exception.__class__, kind)
        self.assertIs(caught.exception.given, given)

    def check_index(self, kind, index, function, *told, **named):
        """Just this class of errors is raised, with this index."""
        with self.assertRaises(kind) as caught:
            function(*told, **named)
        self.assertIs(caught.exception.__class__, kind)
        self.assertIs(caught.exception.index, index)

    def check_order(self, function, good, bad):
        """Of several wrong arguments the first one is told; `bad` has the class and what it keeps for each name."""
        names = list(good)
        self.assertEqual(list(bad), names)
        for at, name in enumerate(names):
            value, kind, told = bad[name]
            row = [good[each] for each in names[:at]] + [bad[each][0] for each in names[at:]]
            check = self.check_index if kind is InvalidStarts else self.check_raises
            check(kind, told if kind is InvalidStarts else value, function, *row)
            check(kind, told if kind is InvalidStarts else value, function, **dict(reversed(list(zip(names, row)))))

    def check_odd(self, kind, odds, function, good, *names):
        """Each of these values, for each of these parameters alone, leads to this class of errors, which keeps it."""
        for odd in odds:
            for name in names:
                row = {**good, name: odd}
                self.check_raises(kind, odd, function, *row.values())
                self.check_raises(kind, odd, function, **dict(reversed(list(row.items()))))

    def check_bare(self, kind, function, *told, **named):
        """Just this class of errors is raised, without attributes."""
        with self.assertRaises(kind) as caught:
            function(*told, **named)
        self.assertIs(caught.exception.__class__, kind)
