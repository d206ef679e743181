"""Points 15 to 17: best rules, best explicit ones, best first polynomials, and the rules with names."""

import inspect
import unittest
from fractions import Fraction
from math import comb
from random import Random

from legsteps import bests
from legsteps.bests import adams, backward, best, best_explicit, best_first, moulton
from legsteps.convergence import converges
from legsteps.errors import InvalidNumber, InvalidPolynomial, LostStep, NotLevel, TooManySteps
from legsteps.rules import defects, is_explicit, is_rule, order_of, steps_of
from samples import (
    BACK_EULER, EULER, HALF, HALVES, HUGE, LEAP, LESS_ONE, MORE_ONE, NIL, ONE, TWIN, TWO, WILD, polynomial_of,
    product_of, rule_of, some_rules,
)
from wrongs import ODD_POLYNOMIALS, WrongCase, odd_numbers

GREATER = polynomial_of(product_of(*[(1, 1)] * 8, (-1, 1)))


def level_polynomials(many):
    """Polynomials of the degrees 1 to 8 that are 0 at 1."""
    random = Random(61)
    found = []
    while len(found) < many:
        row = [Fraction(random.randint(-5, 5), random.randint(1, 4)) for _ in range(len(found) % 8)] + [random.choice((1, -2, Fraction(1, 3)))]
        found.append(polynomial_of(product_of(row, (-1, 1))))
    return found


class Best(unittest.TestCase):

    def check(self, polynomial):
        steps = len(polynomial) - 1
        rule, explicit = best(polynomial), best_explicit(polynomial)
        self.assertTrue(is_rule(rule) and is_rule(explicit))
        self.assertEqual((rule[0], explicit[0]), (polynomial, polynomial))
        self.assertGreaterEqual(order_of(rule), steps + 1)
        self.assertGreaterEqual(order_of(explicit), steps)
        self.assertIs(is_explicit(explicit), True)
        # There is just one best rule: so both are the same if the explicit one has one more order.
        self.assertIs(rule == explicit, defects(explicit, steps + 1)[-1] == NIL)
        self.assertEqual((best(polynomial=polynomial), best_explicit(polynomial=polynomial)), (rule, explicit))

    def test_by_hand(self):
        self.assertEqual(best(LESS_ONE), HALVES)
        self.assertEqual(best_explicit(LESS_ONE), EULER)
        self.assertEqual(best(((-1, 1), NIL, ONE)), (((-1, 1), NIL, ONE), ((1, 3), (4, 3), (1, 3))))
        self.assertEqual(best_explicit(((-1, 1), NIL, ONE)), LEAP)
        self.assertEqual(best_explicit(((-5, 1), (4, 1), ONE)), WILD)
        self.assertEqual(best(((-5, 1), (4, 1), ONE)), WILD)

    def test_orders_for_all_degrees(self):
        for polynomial in level_polynomials(80):
            self.check(polynomial)

    def test_roots_at_1_more_than_once(self):
        for often in range(1, 9):
            self.check(polynomial_of(product_of(*[(-1, 1)] * often)))
        self.assertEqual(best_explicit(polynomial_of(product_of((-1, 1), (-1, 1)))), rule_of((1, -2, 1), (-1, 1, 0)))

    def test_great_numbers(self):
        self.check(((-HUGE, 1), (HUGE - 1, 1), ONE))
        self.check((((-HUGE, HUGE + 1)), NIL, (HUGE, HUGE + 1)))

    def test_symmetric_ones_have_one_more_order(self):
        for row in ((-1, 0, 1), (-1, 1, -1, 0, 1, -1, 1), (-1, 0, 0, 0, 1)):
            self.assertEqual(order_of(best(polynomial_of(row))), len(row) + 1)


class BestFirst(unittest.TestCase):

    def test_by_hand(self):
        self.assertEqual(best_first((ONE,), 1), EULER)
        self.assertEqual(best_first((ONE,), 2), (((-3, 2), TWO, (-1, 2)), (ONE, NIL, NIL)))
        self.assertEqual(best_first((NIL, TWO), 2), LEAP)
        self.assertEqual(best_first((NIL, ONE), 1), BACK_EULER)
        self.assertEqual(best_first(steps=2, polynomial=(NIL, NIL, ONE)), TWIN)
        self.assertEqual(best_first((HALF, HALF), 1), HALVES)

    def test_orders(self):
        random = Random(62)
        lost = 0
        for at in range(160):
            steps = at % 8 + 1
            row = [Fraction(random.randint(-3, 3), random.randint(1, 3)) for _ in range(random.randint(1, steps + 1))]
            polynomial = polynomial_of(row)
            if not polynomial:
                continue
            try:
                rule = best_first(polynomial, steps)
            except LostStep:
                lost += 1
                continue
            self.assertTrue(is_rule(rule))
            self.assertEqual(steps_of(rule), steps)
            self.assertEqual(rule[1], polynomial + (NIL,) * (steps + 1 - len(polynomial)))
            self.assertGreaterEqual(order_of(rule), steps)
        self.assertLess(lost, 40)

    def test_the_first_polynomial_of_a_rule_of_that_order(self):
        for rule in (HALVES, LEAP, TWIN, EULER, BACK_EULER, WILD):
            polynomial = rule[1]
            while polynomial[-1] == NIL:
                polynomial = polynomial[:-1]
            self.assertEqual(best_first(polynomial, steps_of(rule)), rule)

    def test_a_degree_that_is_lost(self):
        for row, steps in (((-1, 1), 1), ((1, -2, 1), 2), ((1, 1), 2), ((-1, 3, -3, 1), 3), ((1, 2), 3)):
            with self.assertRaises(LostStep):
                best_first(polynomial_of(row), steps)
        # (z - 1) log z with just the power 2 of z - 1: its degree is 2, but not 1 or 3.
        self.assertEqual(best_first(LESS_ONE, 2), rule_of((1, -2, 1), (-1, 1, 0)))
        found = best_first(LESS_ONE, 3)
        self.assertEqual(found, rule_of((Fraction(3, 2), -3 - Fraction(1, 2), 2 + Fraction(1, 2), Fraction(-1, 2)), (-1, 1, 0, 0)))

    def test_too_many_steps(self):
        for steps in range(1, 8):
            with self.assertRaises(TooManySteps):
                best_first((NIL,) * (steps + 1) + (ONE,), steps)
            with self.assertRaises(TooManySteps):
                best_first((ONE,) * 40, steps)


class NamedRules(unittest.TestCase):

    def test_adams(self):
        self.assertEqual(adams(1), EULER)
        self.assertEqual(adams(2), ((NIL, (-1, 1), ONE), ((-1, 2), (3, 2), NIL)))
        self.assertEqual(adams(3)[1], ((5, 12), (-4, 3), (23, 12), NIL))
        self.assertEqual(adams(4)[1], ((-3, 8), (37, 24), (-59, 24), (55, 24), NIL))

    def test_moulton(self):
        self.assertEqual(moulton(1), HALVES)
        self.assertEqual(moulton(2)[1], ((-1, 12), (2, 3), (5, 12)))
        self.assertEqual(moulton(3)[1], ((1, 24), (-5, 24), (19, 24), (3, 8)))
        self.assertEqual(moulton(4)[1], ((-19, 720), (53, 360), (-11, 30), (323, 360), (251, 720)))

    def test_backward(self):
        self.assertEqual(backward(1), BACK_EULER)
        self.assertEqual(backward(2), TWIN)
        self.assertEqual(backward(3)[0], ((-1, 3), (3, 2), (-3, 1), (11, 6)))
        for steps in range(1, 9):
            # The sum of the differences, each by how often it was taken.
            first = [sum(Fraction((-1) ** (steps - at) * comb(often, steps - at), often) for often in range(max(1, steps - at), steps + 1))
                     for at in range(steps + 1)]
            self.assertEqual(backward(steps), rule_of(first, [0] * steps + [1]))

    def test_all_steps(self):
        for steps in range(1, 9):
            for made, order in ((adams, steps), (moulton, steps + 1), (backward, steps)):
                rule = made(steps)
                self.assertTrue(is_rule(rule))
                self.assertEqual(made(steps=steps), rule)
                self.assertEqual(steps_of(rule), steps)
                self.assertEqual(order_of(rule), order)
            self.assertEqual(adams(steps)[0], (NIL,) * (steps - 1) + LESS_ONE)
            self.assertEqual(moulton(steps)[0], adams(steps)[0])
            self.assertIs(is_explicit(adams(steps)), True)
            self.assertIs(is_explicit(moulton(steps)), False)
            self.assertTrue(converges(adams(steps)) and converges(moulton(steps)))
            self.assertIs(converges(backward(steps)), steps < 7)


class WrongInputs(WrongCase):

    def test_what_is_no_polynomial(self):
        for odd in ODD_POLYNOMIALS + ((),):
            for function in (best, best_explicit):
                self.check_raises(InvalidPolynomial, odd, function, odd)
                self.check_raises(InvalidPolynomial, odd, function, polynomial=odd)
            self.check_raises(InvalidPolynomial, odd, best_first, odd, 2)
            self.check_raises(InvalidPolynomial, odd, best_first, steps=2, polynomial=odd)

    def test_numbers_and_degrees_above_8(self):
        for odd in ((ONE,), ((-7, 3),), GREATER, (ONE,) * 10, (NIL,) * 8 + LESS_ONE, (NIL,) * 50 + (ONE,)):
            for function in (best, best_explicit):
                self.check_raises(InvalidPolynomial, odd, function, odd)
        self.assertEqual(best((NIL,) * 7 + LESS_ONE), moulton(8))

    def test_polynomials_that_are_not_0_at_1(self):
        for polynomial in (MORE_ONE, (NIL, ONE), ((-1, 1), TWO), (ONE, NIL, ONE), ((-HUGE, 1), (HUGE + 1, 1)), (ONE,) * 9,
                           some_rules(1, (8,))[0][0][:-1] + ((HUGE, 7),)):
            for function in (best, best_explicit):
                self.check_bare(NotLevel, function, polynomial)
                self.check_bare(NotLevel, function, polynomial=polynomial)

    def test_what_are_no_steps(self):
        for odd in odd_numbers(1, 8):
            for function in (adams, moulton, backward):
                self.check_raises(InvalidNumber, odd, function, odd)
                self.check_raises(InvalidNumber, odd, function, steps=odd)
            self.check_raises(InvalidNumber, odd, best_first, LESS_ONE, odd)
            self.check_raises(InvalidNumber, odd, best_first, steps=odd, polynomial=(ONE,) * 40)

    def test_the_order_of_the_checks(self):
        self.check_raises(InvalidPolynomial, None, best_first, None, None)
        self.check_raises(InvalidPolynomial, (), best_first, (), 9)
        self.check_raises(InvalidNumber, 0, best_first, (ONE,) * 3, 0)
        self.check_bare(TooManySteps, best_first, polynomial_of((1, -2, 1)), 1)
        self.check_bare(LostStep, best_first, polynomial_of((1, -2, 1)), 2)
        self.check_bare(LostStep, best_first, LESS_ONE, 1)


class Interface(unittest.TestCase):

    def test_names_of_the_parameters(self):
        told = {"best": ["polynomial"], "best_explicit": ["polynomial"], "best_first": ["polynomial", "steps"]}
        for name in ("adams", "moulton", "backward"):
            told[name] = ["steps"]
        for name, parameters in told.items():
            function = getattr(bests, name)
            self.assertEqual(list(inspect.signature(function).parameters), parameters)
            self.assertEqual(function.__module__, "legsteps.bests")

    def test_the_examples_of_the_document(self):
        self.assertEqual(
            [best(((-1, 1), ONE)) == HALVES, best_explicit(((-1, 1), ONE)) == EULER,
             best_explicit(((-5, 1), (4, 1), ONE)) == WILD, backward(1) == BACK_EULER, backward(2) == TWIN,
             best_first((ONE,), 1) == EULER],
            [True] * 6,
        )
        self.assertEqual(
            [best(((-1, 1), NIL, ONE))[1], adams(2), moulton(2)[1], best_first((ONE,), 2)],
            [((1, 3), (4, 3), (1, 3)), (((0, 1), (-1, 1), (1, 1)), ((-1, 2), (3, 2), (0, 1))), ((-1, 12), (2, 3), (5, 12)),
             (((-3, 2), (2, 1), (-1, 2)), ((1, 1), (0, 1), (0, 1)))],
        )
        with self.assertRaises(LostStep):
            best_first(((-1, 1), ONE), 1)


if __name__ == "__main__":
    unittest.main()
