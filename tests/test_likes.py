"""Points 18 and 19: multiplied, reduced and mixed rules, and which ones are the same or alike."""

import inspect
import unittest
from fractions import Fraction
from random import Random

from legsteps import likes
from legsteps.bests import adams, backward, moulton
from legsteps.errors import InvalidFraction, InvalidPolynomial, InvalidRule, LostStep, TooManySteps, UnlikeSteps
from legsteps.likes import are_alike, are_same, mixed, multiplied, reduced
from legsteps.rules import is_rule, order_of, steps_of
from samples import (
    BACK_EULER, EULER, FLAT, FRACTIONS, HALF, HALVES, HUGE, LEAP, NIL, ONE, SLOW, THREE, TWIN, TWO, WILD, pair_of,
    polynomial_of, product_of, python_of, rule_of, scaled, some_polynomials, some_rules, times_both,
)
from wrongs import ODD_FRACTIONS, ODD_POLYNOMIALS, ODD_RULES, WrongCase

RULES = (EULER, BACK_EULER, HALVES, LEAP, TWIN, WILD, FLAT, SLOW, THREE, adams(4), moulton(4), backward(5))
FACTORS = (
    (3,), (Fraction(-2, 7),), (1, 1), (0, 1), (Fraction(1, 2), -3), (1, 0, 1), (2, -5, 2), (0, 0, 4), (1, 2, 3, 4), (0, 0, 0, -1),
    (Fraction(1, 3), 0, 0, Fraction(5, 7)),
)


def normal(rule):
    """The numbers of the rule by the last a, as Python's."""
    lead = python_of(rule[0][-1])
    return [[python_of(each) / lead for each in row] for row in rule]


def rest_by(first, second):
    """The rest of a row of Python's numbers by another one."""
    first = list(first)
    while len(first) >= len(second):
        factor = first[-1] / second[-1]
        for at in range(len(second)):
            first[len(first) - len(second) + at] -= factor * second[at]
        first.pop()
    while first and first[-1] == 0:
        first.pop()
    return first


def common_degree(rule):
    """The degree of the greatest polynomial that divides both of the rule's."""
    first, second = normal(rule)
    while second and second[-1] == 0:
        second.pop()
    while second:
        first, second = second, rest_by(first, second)
    return len(first) - 1


def mixed_by_hand(rule, other, share):
    rows = []
    for row, behind in zip(rule, other):
        rows.append([share * python_of(each) + (1 - share) * python_of(last) for each, last in zip(row, behind)])
    return rows


class Multiplied(unittest.TestCase):

    def check(self, rule, factor):
        found = multiplied(rule, polynomial_of(factor))
        self.assertEqual(found, times_both(rule, factor))
        self.assertEqual(multiplied(polynomial=polynomial_of(factor), rule=rule), found)
        self.assertTrue(is_rule(found))
        self.assertEqual(len(found[1]), len(found[0]))
        self.assertEqual(steps_of(found), steps_of(rule) + len(factor) - 1)
        return found

    def test_by_hand(self):
        self.assertEqual(multiplied(EULER, (ONE, ONE)), (((-1, 1), NIL, ONE), (ONE, ONE, NIL)))
        self.assertEqual(multiplied(EULER, (NIL, TWO)), ((NIL, (-2, 1), TWO), (NIL, TWO, NIL)))
        self.assertEqual(multiplied(LEAP, (HALF,)), (((-1, 2), NIL, HALF), (NIL, ONE, NIL)))
        self.assertEqual(multiplied(rule_of((1, 1), (0, 0)), (ONE, TWO)), rule_of((1, 3, 2), (0, 0, 0)))

    def test_by_one_to_four_numbers(self):
        for rule in RULES + tuple(some_rules(40, range(1, 6))):
            for factor in FACTORS:
                self.check(rule, factor)

    def test_by_drawn_polynomials(self):
        for polynomial in some_polynomials(60):
            for rule in (EULER, LEAP, some_rules(1, (2,))[0]):
                if polynomial:
                    self.check(rule, [python_of(each) for each in polynomial])

    def test_up_to_eight_steps(self):
        for rule in some_rules(24, range(1, 9)):
            steps = steps_of(rule)
            for degree in range(12):
                polynomial = polynomial_of([degree - at + 1 for at in range(degree + 1)])
                if steps + degree <= 8:
                    self.check(rule, [python_of(each) for each in polynomial])
                else:
                    with self.assertRaises(TooManySteps):
                        multiplied(rule, polynomial)

    def test_orders(self):
        for rule in RULES[:6]:
            # A factor that is not 0 at 1 leaves the order, one with a single root there makes it greater by 1.
            for factor in ((1, 1), (0, 1), (2, -5, 2), (7,)):
                self.assertEqual(order_of(multiplied(rule, polynomial_of(factor))), order_of(rule))
            self.assertEqual(order_of(multiplied(rule, polynomial_of((-1, 1)))), order_of(rule) + 1)

    def test_great_numbers(self):
        self.check(EULER, (HUGE, Fraction(1, HUGE), Fraction(HUGE, HUGE + 1)))
        self.check(rule_of((HUGE, Fraction(-1, HUGE)), (Fraction(HUGE, 3), HUGE ** 2)), (HUGE ** 3, Fraction(7, HUGE)))


class Reduced(unittest.TestCase):

    def check(self, rule):
        """The reduced rule, or None."""
        degree = common_degree(rule)
        if degree == steps_of(rule):
            with self.assertRaises(LostStep):
                reduced(rule)
            return None
        found = reduced(rule)
        self.assertEqual(reduced(rule=rule), found)
        self.assertTrue(is_rule(found))
        self.assertEqual(found[0][-1], ONE)
        self.assertEqual(steps_of(found), steps_of(rule) - degree)
        self.assertEqual(common_degree(found), 0)
        self.assertEqual(reduced(found), found)
        (first, second), (less, least) = normal(rule), normal(found)
        self.assertEqual(product_of(first, least), product_of(less, second))
        return found

    def test_by_hand(self):
        self.assertEqual(self.check(multiplied(EULER, (ONE, ONE))), EULER)
        self.assertEqual(self.check(TWIN), (((1, 3), (-4, 3), ONE), (NIL, NIL, (2, 3))))
        self.assertEqual(self.check(rule_of((0, -2, 2), (0, 1, 1))), HALVES)
        self.assertEqual(self.check(rule_of((-1, 0, 1), (1, 1, 0))), EULER)
        self.assertEqual(self.check(rule_of((0, 0, 0, 3), (0, 0, 1, 0))), rule_of((0, 1), (Fraction(1, 3), 0)))
        self.assertEqual(self.check(rule_of((0, 0, 0, 3), (0, 1, 0, 0))), rule_of((0, 0, 1), (Fraction(1, 3), 0, 0)))

    def test_multiplied_ones(self):
        for rule in RULES + tuple(some_rules(40, range(1, 6))):
            told = self.check(rule)
            for factor in FACTORS:
                found = self.check(times_both(rule, factor)) if steps_of(rule) + len(factor) <= 9 else told
                self.assertEqual(found, told)

    def test_no_step_left(self):
        for row in ((1, 1), (-1, 0, 2), (0, 0, 0, 5), (1, 2, 3, 4, 5, 6, 7, 8, 9)):
            self.assertIsNone(self.check(rule_of(row, [0] * len(row))))
            for factor in (1, -3, Fraction(2, 7)):
                self.assertIsNone(self.check(rule_of([factor * each for each in row], row)))

    def test_drawn_rules(self):
        for rule in some_rules(120, range(1, 9), greatest=2):
            self.check(rule)

    def test_great_numbers(self):
        rule = rule_of((-HUGE, HUGE + 1, Fraction(1, HUGE)), (HUGE ** 2, Fraction(3, HUGE), 1))
        told = self.check(rule)
        for factor in ((HUGE, 1), (Fraction(1, HUGE), HUGE - 1, HUGE), (1, 0, 0, HUGE), (HUGE,)):
            self.assertEqual(self.check(multiplied(rule, polynomial_of(factor))), told)


class SameAndAlike(unittest.TestCase):

    def check(self, rule, other, is_same, is_alike):
        for first, second in ((rule, other), (other, rule)):
            self.assertIs(are_same(first, second), is_same)
            self.assertIs(are_same(other=second, rule=first), is_same)
            self.assertIs(are_alike(first, second), is_alike)
            self.assertIs(are_alike(other=second, rule=first), is_alike)

    def test_a_rule_and_itself(self):
        for rule in RULES + tuple(some_rules(30, range(1, 9))):
            self.check(rule, rule, True, True)
            for factor in (-1, Fraction(7, 3), HUGE, Fraction(-1, HUGE)):
                self.check(rule, scaled(rule, factor), True, True)

    def test_multiplied_ones(self):
        for rule in RULES:
            for factor in FACTORS:
                if steps_of(rule) + len(factor) <= 9:
                    self.check(rule, times_both(rule, factor), len(factor) == 1, True)
        self.check(times_both(EULER, (1, 1)), times_both(EULER, (2, 3)), False, True)
        self.check(times_both(LEAP, (1, 1)), times_both(LEAP, (0, 2, 3)), False, True)

    def test_different_ones(self):
        for at, rule in enumerate(RULES):
            for other in RULES[at + 1:]:
                self.check(rule, other, False, False)

    def test_where_one_number_differs(self):
        for rule in (EULER, LEAP, TWIN, THREE):
            for which in (0, 1):
                for at in range(len(rule[0])):
                    rows = [[python_of(each) for each in row] for row in rule]
                    rows[which][at] += Fraction(1, HUGE)
                    self.check(rule, rule_of(*rows), False, False)
            self.check(rule, (rule[0], scaled(rule, 2)[1]), False, False)
            self.check(rule, (scaled(rule, -1)[0], rule[1]), False, False)

    def test_nought_second_polynomials(self):
        still = rule_of((1, 1), (0, 0))
        self.check(still, rule_of((2, 5), (0, 0)), False, True)
        self.check(still, rule_of((2, 5, 7), (0, 0, 0)), False, True)
        self.check(still, rule_of((-3, -3), (0, 0)), True, True)
        self.check(still, FLAT, False, False)
        self.check(still, rule_of((1, 1, 0, 1), (0, 0, 0, 1)), False, False)

    def test_a_fraction_times_the_other_polynomial(self):
        # All are multiples of a pair without a step.
        self.check(rule_of((2, 4), (1, 2)), rule_of((6, 0, 2), (3, 0, 1)), False, True)
        self.check(rule_of((2, 4), (1, 2)), rule_of((6, 0, 2), (3, 0, 2)), False, False)

    def test_a_polynomial_of_a_lower_degree(self):
        self.check(rule_of((1, 2), (3, 0)), rule_of((2, 4), (6, 0)), True, True)
        self.check(rule_of((1, 2), (3, 0)), rule_of((0, 1, 2), (0, 3, 0)), False, True)
        self.check(rule_of((1, 2), (3, 0)), rule_of((0, 1, 2), (3, 0, 0)), False, False)

    def test_alike_ones_have_the_same_reduced_one(self):
        rules = some_rules(30, (1, 2), greatest=1) + [times_both(rule, (1, 2)) for rule in RULES[:6]]
        seen = {}
        for rule in rules:
            for other in rules:
                if common_degree(rule) < steps_of(rule) and common_degree(other) < steps_of(other):
                    alike = reduced(rule) == reduced(other)
                    self.assertIs(are_alike(rule, other), alike)
                    seen[alike, rule == other] = True
        self.assertEqual(len(seen), 3)


class Mixed(unittest.TestCase):

    def check(self, rule, other, share):
        rows = mixed_by_hand(rule, other, share)
        if rows[0][-1] == 0:
            with self.assertRaises(LostStep):
                mixed(rule, other, pair_of(share))
            return None
        found = mixed(rule, other, pair_of(share))
        self.assertEqual(found, rule_of(*rows))
        self.assertEqual(mixed(fraction=pair_of(share), other=other, rule=rule), found)
        self.assertTrue(is_rule(found))
        self.assertGreaterEqual(order_of(found), min(order_of(rule), order_of(other)))
        return found

    def test_by_hand(self):
        self.assertEqual(self.check(EULER, BACK_EULER, Fraction(1, 2)), HALVES)
        self.assertEqual(self.check(EULER, BACK_EULER, Fraction(2, 3)), rule_of((-1, 1), (Fraction(2, 3), Fraction(1, 3))))
        self.assertEqual(self.check(EULER, BACK_EULER, Fraction(-3)), rule_of((-1, 1), (-3, 4)))

    def test_0_and_1(self):
        for rule in RULES:
            for other in RULES:
                if len(rule[0]) == len(other[0]):
                    self.assertEqual(self.check(rule, other, Fraction(1)), rule)
                    self.assertEqual(self.check(rule, other, Fraction(0)), other)

    def test_any_fraction(self):
        random = Random(81)
        for steps in range(1, 9):
            rules = some_rules(4, (steps,)) + [adams(steps), moulton(steps), backward(steps)]
            for rule in rules:
                for other in rules:
                    share = random.choice([python_of(each) for each in FRACTIONS])
                    self.check(rule, other, share)

    def test_a_last_number_that_is_lost(self):
        self.assertIsNone(self.check(rule_of((1, 1), (2, 3)), rule_of((1, -1), (2, 3)), Fraction(1, 2)))
        self.assertIsNone(self.check(rule_of((1, 3), (2, 3)), rule_of((1, 1), (2, 3)), Fraction(-1, 2)))
        self.assertIsNone(self.check(rule_of((1, HUGE), (2, 3)), rule_of((1, -1), (2, 3)), Fraction(1, HUGE + 1)))
        self.assertIsNotNone(self.check(rule_of((1, HUGE), (2, 3)), rule_of((1, -1), (2, 3)), Fraction(1, HUGE)))
        self.assertIsNotNone(self.check(rule_of((1, 1), (2, 1)), rule_of((1, 1), (2, -1)), Fraction(1, 2)))

    def test_a_mix_of_a_rule_with_itself(self):
        for rule in RULES:
            for share in (Fraction(5), Fraction(-1, 3)):
                self.assertEqual(self.check(rule, rule, share), rule)

    def test_orders_may_be_greater(self):
        self.assertEqual([order_of(each) for each in (EULER, BACK_EULER, mixed(EULER, BACK_EULER, HALF))], [1, 1, 2])
        self.assertEqual(order_of(mixed(adams(2), moulton(2), (-1, 3))), 2)


class WrongInputs(WrongCase):

    def test_what_is_no_rule(self):
        self.check_odd(InvalidRule, ODD_RULES, multiplied, {"rule": EULER, "polynomial": (ONE,)}, "rule")
        self.check_odd(InvalidRule, ODD_RULES, reduced, {"rule": EULER}, "rule")
        for function in (are_same, are_alike):
            self.check_odd(InvalidRule, ODD_RULES, function, {"rule": EULER, "other": LEAP}, "rule", "other")
        self.check_odd(InvalidRule, ODD_RULES, mixed, {"rule": EULER, "other": HALVES, "fraction": HALF}, "rule", "other")

    def test_what_is_no_polynomial(self):
        good = {"rule": EULER, "polynomial": (ONE,)}
        self.check_odd(InvalidPolynomial, ODD_POLYNOMIALS + ((),), multiplied, good, "polynomial")

    def test_what_is_no_fraction(self):
        good = {"rule": EULER, "other": HALVES, "fraction": HALF}
        self.check_odd(InvalidFraction, ODD_FRACTIONS, mixed, good, "fraction")

    def test_the_order_of_the_checks(self):
        rule, other = ([EULER], InvalidRule, None), ((EULER, 1), InvalidRule, None)
        self.check_order(
            multiplied, {"rule": backward(8), "polynomial": (ONE, ONE)}, {"rule": rule, "polynomial": ((), InvalidPolynomial, None)},
        )
        for function in (are_same, are_alike):
            self.check_order(function, {"rule": EULER, "other": LEAP}, {"rule": rule, "other": other})
        self.check_order(
            mixed, {"rule": EULER, "other": LEAP, "fraction": HALF},
            {"rule": rule, "other": other, "fraction": ((2, 4), InvalidFraction, None)},
        )

    def test_what_is_told_last(self):
        self.check_bare(TooManySteps, multiplied, backward(8), (ONE, ONE))
        self.check_bare(TooManySteps, multiplied, EULER, (ONE,) * 9)
        self.check_bare(TooManySteps, multiplied, polynomial=(NIL,) * 50 + (ONE,), rule=EULER)
        self.assertEqual(steps_of(multiplied(EULER, (ONE,) * 8)), 8)
        self.check_bare(LostStep, reduced, rule_of((1, 1), (0, 0)))
        # Unlike steps come ahead of a lost one.
        lost = rule_of((1, -1), (2, 3)), rule_of((1, 0, 1), (2, 3, 4))
        self.check_bare(UnlikeSteps, mixed, *lost, HALF)
        self.check_bare(UnlikeSteps, mixed, EULER, LEAP, HALF)
        self.check_bare(UnlikeSteps, mixed, fraction=ONE, rule=LEAP, other=EULER)
        self.check_bare(LostStep, mixed, rule_of((1, 1), (2, 3)), rule_of((1, -1), (2, 3)), HALF)


class Interface(unittest.TestCase):

    def test_names_of_the_parameters(self):
        told = {
            "multiplied": ["rule", "polynomial"], "reduced": ["rule"], "are_same": ["rule", "other"],
            "are_alike": ["rule", "other"], "mixed": ["rule", "other", "fraction"],
        }
        for name, parameters in told.items():
            function = getattr(likes, name)
            self.assertEqual(list(inspect.signature(function).parameters), parameters)
            self.assertEqual(function.__module__, "legsteps.likes")

    def test_the_examples_of_the_document(self):
        double = multiplied(EULER, (ONE, ONE))
        self.assertEqual(
            [double, reduced(double) == EULER, are_alike(double, EULER), are_same(double, EULER),
             mixed(EULER, BACK_EULER, HALF) == HALVES],
            [(((-1, 1), (0, 1), (1, 1)), ((1, 1), (1, 1), (0, 1))), True, True, False, True],
        )


if __name__ == "__main__":
    unittest.main()
