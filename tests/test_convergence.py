"""Points 12 to 14: convergence and why not, the kernel, still runs, the barrier."""

import inspect
import unittest
from fractions import Fraction
from random import Random

from legsteps import convergence
from legsteps.convergence import barrier, converges, kernel, still_run, why_not
from legsteps.errors import InvalidNumber, InvalidRule, InvalidStarts
from legsteps.numbers import is_fraction
from legsteps.rules import is_rule, order_of
from samples import (
    BACK_EULER, EULER, FLAT, HALF, HALVES, HUGE, LEAP, NIL, ONE, SLOW, THREE, TWIN, TWO, WILD, pair_of,
    product_of, python_of, rule_of, scaled, some_rules,
)
from wrongs import ODD_RULES, ODD_STARTS, WrongCase, odd_numbers

def told_run(row, starts, many):
    """So many numbers of the still run."""
    row = [python_of(each) for each in row]
    found = [python_of(each) for each in starts]
    while len(found) < many:
        last = found[-len(row) + 1:]
        found.append(-sum(a * each for a, each in zip(row, last)) / row[-1])
    return tuple(pair_of(each) for each in found[:many])


class Convergence(unittest.TestCase):

    def check(self, rule, word):
        self.assertEqual(why_not(rule), word)
        self.assertEqual(why_not(rule=rule), word)
        self.assertIs(converges(rule), word is None)
        self.assertIs(converges(rule=rule), word is None)

    def test_words(self):
        for rule in (EULER, BACK_EULER, HALVES, LEAP, TWIN, THREE):
            self.check(rule, None)
        self.check(WILD, "roots")
        self.check(FLAT, "level")
        self.check(SLOW, "slope")

    def test_where_several_reasons_hold(self):
        # level and slope; level and roots; all three; slope and roots.
        self.check(rule_of((1, 1), (0, 0)), "level")
        self.check(rule_of((-3, 1), (1, 0)), "level")
        self.check(rule_of((-3, 1), (0, 0)), "level")
        self.check(rule_of((2, -3, 1), (0, 0, 0)), "slope")
        self.check(rule_of((1, -2, 1), (1, 0, 0)), "slope")
        self.check(rule_of((1, -2, 1), (1, -1, 0)), "roots")
        self.check(rule_of((1, -2, 1), (0, 0, 0)), "roots")
        self.check(rule_of((2, -3, 1), (-1, 0, 0)), "roots")

    def test_roots_on_the_circle(self):
        self.check(rule_of((-1, 1, -1, 1), (0, 2, 0, 0)), None)
        self.check(rule_of(product_of((-1, 1), (1, 0, 1), (1, 0, 1)), (4, 0, 0, 0, 0, 0)), "roots")
        self.check(rule_of(product_of((-1, 1), (1, 1), (0, 1)), (2, 0, 0, 0)), None)
        self.check(rule_of(product_of((-1, 1), (1, 1), (1, 1)), (4, 0, 0, 0)), "roots")
        self.check(rule_of(product_of((-1, 1), (HUGE + 1, HUGE)), (2 * HUGE + 1, 0, 0)), "roots")
        self.check(rule_of(product_of((-1, 1), (HUGE, HUGE + 1)), (2 * HUGE + 1, 0, 0)), None)

    def test_what_stays_when_a_rule_is_multiplied_by_a_number(self):
        for rule in some_rules(80) + [LEAP, WILD, SLOW]:
            for factor in (Fraction(-1), Fraction(7, 3)):
                self.check(scaled(rule, factor), why_not(rule))
                self.assertEqual(barrier(scaled(rule, factor)), barrier(rule))


class Kernels(unittest.TestCase):

    def test_kernels(self):
        self.assertEqual(kernel(EULER, 4), (ONE,) * 5)
        self.assertEqual(kernel(LEAP, 3), (ONE, NIL, ONE, NIL))
        self.assertEqual(kernel(TWIN, 2), ((2, 3), (8, 9), (26, 27)))
        self.assertEqual(kernel(scaled(EULER, Fraction(-2, 3)), 2), ((-3, 2),) * 3)
        self.assertEqual(kernel(rule_of((0, 0, 5), (1, 1, 1)), 3), ((1, 5), NIL, NIL, NIL))

    def test_0(self):
        self.assertEqual(kernel(TWIN, 0), ((2, 3),))
        self.assertEqual(kernel(number=0, rule=LEAP), (ONE,))

    def test_the_product_is_1(self):
        for rule in some_rules(60, range(1, 9)):
            found = [python_of(each) for each in kernel(rule, 12)]
            self.assertTrue(all(is_fraction(each) for each in kernel(rule, 12)))
            row = [python_of(each) for each in rule[0][::-1]]
            for power in range(13):
                told = sum(row[at] * found[power - at] for at in range(min(power + 1, len(row))))
                self.assertEqual(told, 1 if power == 0 else 0)

    def test_400(self):
        self.assertEqual(kernel(EULER, 400), (ONE,) * 401)
        self.assertEqual(kernel(rule_of((-3, 2), (0, 0)), 400)[400], (3 ** 400, 2 ** 401))
        self.assertEqual(kernel(TWIN, 400)[400], (3 ** 401 - 1, 3 ** 401))
        for rule in (WILD, THREE, some_rules(1, (8,))[0]):
            row = [python_of(each) for each in rule[0]]
            starts = (NIL,) * (len(row) - 2) + (pair_of(1 / row[-1]),)
            self.assertEqual(kernel(rule, 400), told_run(rule[0], starts, 401 + len(row) - 2)[len(row) - 2:])

    def test_what_local_errors_add_up_to(self):
        random = Random(16)
        for rule in some_rules(20):
            steps = len(rule[0]) - 1
            row, drawn = [python_of(each) for each in rule[0]], [random.randint(-5, 5) for _ in range(8)]
            values = [Fraction(0)] * steps
            for each in drawn:
                last = values[len(values) - steps:]
                values.append((each - sum(a * value for a, value in zip(row, last))) / row[-1])
            found = [python_of(each) for each in kernel(rule, 7)]
            for place in range(8):
                told = sum(found[place - at] * drawn[at] for at in range(place + 1))
                self.assertEqual(values[place + steps], told)

    def test_a_kernel_may_be_passed_on(self):
        grown = kernel(rule_of((HUGE, 1, 3), (0, 0, 0)), 12)
        self.assertEqual(still_run(LEAP, grown[-2:], 5), grown[-2:] * 3)
        self.assertTrue(is_rule((grown[:9], grown[:9])))
        self.assertEqual(kernel((grown[:9], grown[:9]), 0)[0], (grown[8][1], grown[8][0]))


class StillRuns(unittest.TestCase):

    def test_runs(self):
        self.assertEqual(still_run(WILD, (NIL, ONE), 4), (NIL, ONE, (-4, 1), (21, 1), (-104, 1)))
        self.assertEqual(still_run(EULER, (HALF,), 3), (HALF,) * 4)
        self.assertEqual(still_run(number=3, starts=((-2, 3),), rule=FLAT), ((-2, 3), (2, 3), (-2, 3), (2, 3)))
        for rule in some_rules(60, range(1, 9)):
            starts = tuple(pair_of(Fraction(at * at - 7, at + 2)) for at in range(len(rule[0]) - 1))
            self.assertEqual(still_run(rule, starts, 15), told_run(rule[0], starts, 16))

    def test_shorter_than_the_starts(self):
        starts = (ONE, HALF, TWO)
        for number in range(6):
            found = still_run(THREE, starts, number)
            self.assertEqual(len(found), number + 1)
            self.assertEqual(found[:3], starts[:number + 1])
        self.assertEqual(still_run(THREE, starts, 0), (ONE,))
        self.assertEqual(still_run(THREE, starts, 2), starts)

    def test_400(self):
        self.assertEqual(still_run(rule_of((-3, 2), (1, 0)), (ONE,), 400)[400], (3 ** 400, 2 ** 400))
        found = still_run(THREE, (ONE, HALF, (1, HUGE)), 400)
        self.assertEqual(found, told_run(THREE[0], (ONE, HALF, (1, HUGE)), 401))

    def test_what_stays_when_a_rule_is_multiplied_by_a_number(self):
        starts = (ONE, (-7, 3))
        for rule in (TWIN, WILD, LEAP):
            self.assertEqual(still_run(scaled(rule, Fraction(-5, 2)), starts, 30), still_run(rule, starts, 30))

    def test_a_run_does_not_hang_on_b(self):
        self.assertEqual(still_run((WILD[0], (NIL,) * 3), (NIL, ONE), 9), still_run(WILD, (NIL, ONE), 9))


class Barriers(unittest.TestCase):

    def test_even_and_odd_steps_with_b_above_at_and_below_0(self):
        for steps in range(1, 9):
            above = steps + 1 if steps % 2 else steps + 2
            for last, b, told in ((1, 1, above), (-1, -1, above), (1, 0, steps), (-1, 0, steps), (1, -1, steps), (-1, 1, steps),
                                  (Fraction(2, 3), Fraction(1, HUGE), above), (Fraction(2, 3), Fraction(-1, HUGE), steps)):
                rule = rule_of([7] * steps + [last], [5] * steps + [b])
                self.assertEqual(barrier(rule), told)
                self.assertEqual(barrier(rule=rule), told)

    def test_no_converging_rule_breaks_it(self):
        for rule in some_rules(200, greatest=2):
            if converges(rule):
                self.assertLessEqual(order_of(rule), barrier(rule))
        self.assertGreater(order_of(WILD), barrier(WILD))


class WrongInputs(WrongCase):

    def test_what_is_no_rule(self):
        for odd in ODD_RULES:
            for function in (converges, why_not, barrier):
                self.check_raises(InvalidRule, odd, function, odd)
                self.check_raises(InvalidRule, odd, function, rule=odd)
            self.check_raises(InvalidRule, odd, kernel, odd, 1)
            self.check_raises(InvalidRule, odd, still_run, odd, (ONE, ONE), 1)

    def test_what_is_no_number(self):
        for odd in odd_numbers(0, 400):
            self.check_raises(InvalidNumber, odd, kernel, EULER, odd)
            self.check_raises(InvalidNumber, odd, kernel, number=odd, rule=FLAT)
            self.check_raises(InvalidNumber, odd, still_run, LEAP, (ONE, ONE), odd)

    def test_what_are_no_starts(self):
        for odd, index in ODD_STARTS:
            self.check_index(InvalidStarts, index, still_run, LEAP, odd, 3)
            self.check_index(InvalidStarts, index, still_run, number=0, rule=WILD, starts=odd)
        for rule, many in ((EULER, 1), (LEAP, 2), (THREE, 3)):
            for length in range(5):
                if length != many:
                    self.check_index(InvalidStarts, None, still_run, rule, (ONE,) * length, 3)
                    self.check_index(InvalidStarts, None, still_run, rule, (None,) * length, 3)
            self.check_index(InvalidStarts, many - 1, still_run, rule, (ONE,) * (many - 1) + (None,), 3)
            self.check_index(InvalidStarts, None, still_run, rule, [ONE] * many, 3)

    def test_the_order_of_the_checks(self):
        odd = [EULER]
        self.check_raises(InvalidRule, odd, kernel, odd, None)
        self.check_raises(InvalidRule, odd, still_run, odd, None, None)
        self.check_index(InvalidStarts, None, still_run, EULER, None, None)
        self.check_index(InvalidStarts, 0, still_run, EULER, (None,), 401)
        self.check_raises(InvalidNumber, 401, still_run, EULER, (ONE,), 401)


class Interface(unittest.TestCase):

    def test_names_of_the_parameters(self):
        told = {
            "converges": ["rule"], "why_not": ["rule"], "barrier": ["rule"], "kernel": ["rule", "number"],
            "still_run": ["rule", "starts", "number"],
        }
        for name, parameters in told.items():
            function = getattr(convergence, name)
            self.assertEqual(list(inspect.signature(function).parameters), parameters)
            self.assertEqual(function.__module__, "legsteps.convergence")

    def test_the_examples_of_the_document(self):
        self.assertEqual([converges(each) for each in (EULER, HALVES, LEAP, TWIN, WILD, FLAT, SLOW)], [True] * 4 + [False] * 3)
        self.assertEqual(
            [why_not(EULER), why_not(WILD), why_not(FLAT), why_not(SLOW), barrier(WILD), barrier(TWIN), barrier(HALVES),
             barrier(LEAP)],
            [None, "roots", "level", "slope", 2, 4, 2, 2],
        )
        self.assertEqual(
            [kernel(LEAP, 3), kernel(WILD, 3), kernel(TWIN, 2), still_run(WILD, (NIL, ONE), 4)],
            [((1, 1), (0, 1), (1, 1), (0, 1)), ((1, 1), (-4, 1), (21, 1), (-104, 1)), ((2, 3), (8, 9), (26, 27)),
             ((0, 1), (1, 1), (-4, 1), (21, 1), (-104, 1))],
        )


if __name__ == "__main__":
    unittest.main()
