"""Values that are wrong for a parameter, and how to see which error they lead to."""

import unittest
from fractions import Fraction

from samples import FRACTIONS, HALF, HUGE, NIL, ODD_PAIRS, ODD_ROWS, ODD_VALUES, ONE, TWO

ORIGIN = (NIL, NIL)

# None of these is a polynomial.
ODD_POLYNOMIALS = ODD_VALUES + ODD_PAIRS + ODD_ROWS + FRACTIONS + (
    (NIL,), (ONE, NIL), (NIL, NIL), (ONE, HALF, NIL, NIL), [], [ONE], [ONE, TWO], (ONE, [1, 1]), ([0, 1], ONE), (ONE, None),
    (ONE, (2, 2)), ((2, 4), ONE), (ONE, (1, 0)), ((1, -1), ONE), (ONE, (0, 2)), (ONE, (True, 1)), ((1, True), ONE),
    (ONE, 1), (1, ONE), ((ONE,),), ((1, 1, 1),), ((1,), ONE), (ONE, ORIGIN), ("", ONE), (ONE, "11"), ((NIL, ONE), (ONE, NIL)),
    {ONE: ONE}, (ONE,) * 40 + (NIL,), (ONE,) * 40 + ((3, 3),), (ONE, ()), ((), ONE),
)
ODD_POINTS = ODD_VALUES + ODD_PAIRS + ODD_ROWS + FRACTIONS + ((), (ONE,), (ONE, ONE, ONE), [ONE, ONE], (ONE, (2, 2)), ((0, 2), ONE))

# None of these is a rule. (The last one of the odd values is a pair of points, and as such a rule.)
ODD_RULES = ODD_VALUES[:-1] + ODD_PAIRS + ODD_ROWS + FRACTIONS + (
    ((ONE,), (ONE,)), ((ONE,) * 10, (ONE,) * 10), ((), ()), ((ONE, ONE), (ONE,)), ((ONE,), (ONE, ONE)),
    ((ONE, ONE), (ONE, ONE, ONE)), ((ONE,) * 9, (ONE,) * 10), ((ONE, NIL), (ONE, ONE)), ((NIL, NIL), (NIL, NIL)),
    ((ONE,) * 8 + (NIL,), (ONE,) * 9), [(ONE, ONE), (ONE, ONE)], ([ONE, ONE], (ONE, ONE)), ((ONE, ONE), [ONE, ONE]),
    ((ONE, [1, 1]), (ONE, ONE)), ((ONE, ONE), ([0, 1], ONE)), ((ONE, (2, 2)), (ONE, ONE)), ((ONE, ONE), (ONE, (2, 4))),
    ((ONE, ONE), ((0, 2), ONE)), (((1, -1), ONE), (ONE, ONE)), ((ONE, (True, 1)), (ONE, ONE)), ((ONE, ONE), (ONE, (1, True))),
    ((ONE, ONE), ((False, 1), ONE)), ((ONE, 1), (ONE, ONE)), ((1, 1), (1, 1)), ((ONE, ONE),), ((ONE, ONE), (ONE, ONE), (ONE, ONE)),
    ((ONE, ONE), None), (None, (ONE, ONE)), ((ONE, ONE), ONE), (ONE, ONE), ((ONE, None), (ONE, ONE)), ("11", "11"),
    {(ONE, ONE): 1, (ONE, TWO): 2}, ((ONE, Fraction(1)), (ONE, ONE)), ((ONE, ONE), (ONE, Fraction(1, 2))),
    ((ONE, (1, 0)), (ONE, ONE)), ((ONE, ORIGIN), (ONE, ONE)), ((ONE, ONE), (ONE, ())),
)


def odd_numbers(least, greatest):
    """What is no whole number from the least to the greatest one."""
    numbers = [each for each in ODD_VALUES if isinstance(each, bool) or not isinstance(each, int)]
    return numbers + list(FRACTIONS) + [least - 1, greatest + 1, -greatest - 1, HUGE, -HUGE, Fraction(least), str(least)]


class WrongCase(unittest.TestCase):

    def check_raises(self, kind, given, function, *told, **named):
        """Just this class of errors is raised, and keeps just this value."""
        with self.assertRaises(kind) as caught:
            function(*told, **named)
        self.assertIs(caught.exception.__class__, kind)
        self.assertIs(caught.exception.given, given)

    def check_index(self, kind, index, function, *told, **named):
        """Just this class of errors is raised, with this index."""
        with self.assertRaises(kind) as caught:
            function(*told, **named)
        self.assertIs(caught.exception.__class__, kind)
        self.assertIs(caught.exception.index, index)

    def check_bare(self, kind, function, *told, **named):
        """Just this class of errors is raised, without attributes."""
        with self.assertRaises(kind) as caught:
            function(*told, **named)
        self.assertIs(caught.exception.__class__, kind)
