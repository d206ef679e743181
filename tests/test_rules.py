"""Points 10 and 11: what a rule is, its steps and polynomials, defects, order and error number."""

import inspect
import unittest
from fractions import Fraction
from math import factorial, prod

from legsteps import rules
from legsteps.errors import InvalidNumber, InvalidRule
from legsteps.numbers import is_fraction
from legsteps.polys import is_polynomial
from legsteps.rules import (
    defects, error_number, first_of, is_explicit, is_rule, normed, order_of, second_of, steps_of, whole_rule,
)
from samples import (
    BACK_EULER, EULER, FLAT, HALF, HALVES, HUGE, LEAP, LESS_ONE, NIL, ONE, SLOW, THREE, TWIN, TWO, WILD, pair_of, python_of,
    rule_of, scaled, some_rules,
)
from wrongs import ODD_RULES, WrongCase, odd_numbers

UNARY = (steps_of, first_of, second_of, normed, is_explicit, order_of, error_number)
GREAT = (((HUGE, 3), (-5, HUGE), (7, HUGE + 2)), ((1, HUGE), (HUGE, 1), (-HUGE, 2)))
DOCUMENT = (EULER, BACK_EULER, HALVES, LEAP, TWIN, WILD, FLAT, SLOW, THREE)


def told_defect(rule, number):
    """C_number, from what the rule makes of t to the power of the number."""
    first, second = [[python_of(each) for each in row] for row in rule]
    found = sum((a * at ** number for at, a in enumerate(first)), Fraction(0))
    if number > 0:
        found -= sum(number * b * at ** (number - 1) for at, b in enumerate(second))
    return found / factorial(number)


def greatest_rule(steps):
    """The rule of so many steps and of the order 2 k: a difference with all numbers from 0 to k, each twice."""
    second = [-Fraction(1, prod((at - other) ** 2 for other in range(steps + 1) if other != at)) for at in range(steps + 1)]
    first = [2 * b * sum(Fraction(1, at - other) for other in range(steps + 1) if other != at) for at, b in enumerate(second)]
    return rule_of(first, second)


class Rules(unittest.TestCase):

    def test_rules(self):
        for value in DOCUMENT + (GREAT,) + tuple(greatest_rule(steps) for steps in range(1, 9)):
            self.assertIs(is_rule(value), True)
            self.assertIs(is_rule(value=value), True)
        self.assertIs(is_rule(((NIL, ONE), (NIL, NIL))), True)
        self.assertIs(is_rule(((NIL,) * 8 + ((-1, 7),), (NIL,) * 9)), True)

    def test_what_is_none(self):
        for value in ODD_RULES:
            self.assertIs(is_rule(value), False)
            self.assertIs(is_rule(value=value), False)

    def test_lengths(self):
        for many in range(12):
            for others in range(12):
                told = many == others and 2 <= many <= 9
                self.assertIs(is_rule(((ONE,) * many, (HALF,) * others)), told)

    def test_steps(self):
        for steps in range(1, 9):
            self.assertEqual(steps_of(((NIL,) * steps + (ONE,), (NIL,) * (steps + 1))), steps)
            self.assertEqual(steps_of(greatest_rule(steps)), steps)
        self.assertEqual([steps_of(each) for each in DOCUMENT], [1, 1, 1, 2, 2, 2, 1, 1, 3])

    def test_polynomials(self):
        self.assertEqual(first_of(TWIN), TWIN[0])
        self.assertEqual(second_of(TWIN), (NIL, NIL, ONE))
        self.assertEqual(second_of(LEAP), (NIL, TWO))
        self.assertEqual(second_of(EULER), (ONE,))
        self.assertEqual(first_of(((NIL, NIL, HALF), (NIL, NIL, NIL))), (NIL, NIL, HALF))
        self.assertEqual(second_of(((NIL, NIL, HALF), (NIL, NIL, NIL))), ())
        for rule in some_rules(60, range(1, 9)):
            self.assertTrue(is_polynomial(first_of(rule)) and is_polynomial(second_of(rule)))
            self.assertEqual(first_of(rule), rule[0])
            self.assertEqual(second_of(rule) + (NIL,) * (len(rule[1]) - len(second_of(rule))), rule[1])

    def test_explicit(self):
        self.assertEqual([is_explicit(each) for each in DOCUMENT], [True, False, False, True, False, True, True, True, False])
        self.assertIs(is_explicit(((ONE, ONE), (NIL, NIL))), True)
        self.assertIs(is_explicit(((ONE, ONE), (NIL, (-1, 9)))), False)

    def test_normed(self):
        self.assertEqual(normed(TWIN), (((1, 3), (-4, 3), ONE), (NIL, NIL, (2, 3))))
        self.assertEqual(normed(((NIL, (-2, 1)), (ONE, NIL))), ((NIL, ONE), ((-1, 2), NIL)))
        self.assertEqual(normed(((NIL, HALF), (NIL, NIL))), ((NIL, ONE), (NIL, NIL)))
        for rule in some_rules(60, range(1, 9)) + [GREAT]:
            made = normed(rule)
            self.assertTrue(is_rule(made))
            self.assertEqual(made[0][-1], ONE)
            self.assertEqual(scaled(made, python_of(rule[0][-1])), rule)
            self.assertEqual(normed(made), made)
            self.assertEqual(normed(scaled(rule, Fraction(-3, 7))), made)

    def test_whole_numbers(self):
        self.assertEqual(whole_rule(TWIN), ((1, -4, 3), (0, 0, 2)))
        self.assertEqual(whole_rule(((ONE, ONE), (HALF, (1, 3)))), ((6, 6), (3, 2)))
        self.assertEqual(whole_rule(scaled(TWIN, HUGE)), whole_rule(TWIN))
        self.assertEqual(whole_rule(scaled(TWIN, -HUGE)), ((-1, 4, -3), (0, 0, -2)))


class Orders(unittest.TestCase):

    def test_defects(self):
        for rule in DOCUMENT + (GREAT,) + tuple(some_rules(40, range(1, 9))):
            for number in (0, 1, 2, 7):
                found = defects(rule, number)
                self.assertEqual(found, tuple(pair_of(told_defect(rule, each)) for each in range(number + 1)))
                self.assertTrue(all(is_fraction(each) for each in found))

    def test_0_1_and_40_defects(self):
        self.assertEqual(defects(WILD, 0), (NIL,))
        self.assertEqual(defects(WILD, 1), (NIL, NIL))
        self.assertEqual(defects(FLAT, 0), (TWO,))
        self.assertEqual(defects(FLAT, 1), (TWO, NIL))
        self.assertEqual(defects(((NIL, ONE), (ONE, NIL)), 3), (ONE, NIL, HALF, (1, 6)))
        for rule in (WILD, THREE, greatest_rule(8)):
            found = defects(rule, 40)
            self.assertEqual(found, tuple(pair_of(told_defect(rule, each)) for each in range(41)))
            self.assertEqual(defects(number=40, rule=rule), found)

    def test_what_defects_tell_of_polynomials(self):
        worths = [Fraction(3, 2), Fraction(-1, 3), Fraction(5), Fraction(-7, 4), Fraction(2, 9)]
        step = Fraction(2, 5)
        for rule in some_rules(20):
            told = 0
            for at, (a, b) in enumerate(zip(*rule)):
                place = at * step
                told += python_of(a) * sum(each * place ** power for power, each in enumerate(worths))
                slope = sum(power * each * place ** (power - 1) for power, each in enumerate(worths) if power)
                told -= step * python_of(b) * slope
            made = sum(python_of(each) * step ** power * factorial(power) * worth
                       for power, (each, worth) in enumerate(zip(defects(rule, 4), worths)))
            self.assertEqual(made, told)

    def test_orders_from_less_1_to_2_k(self):
        self.assertEqual([order_of(each) for each in DOCUMENT], [1, 1, 2, 2, 2, 3, -1, 0, 3])
        self.assertEqual(order_of(((ONE, ONE), (NIL, NIL))), -1)
        self.assertEqual(order_of((LESS_ONE, (NIL, NIL))), 0)
        self.assertEqual(order_of((((-1, 1), (3, 1), (-3, 1), ONE), (NIL,) * 4)), 2)
        self.assertEqual(order_of((((-1, 1), NIL, ONE), ((1, 3), (4, 3), (1, 3)))), 4)
        for steps in range(1, 9):
            self.assertEqual(order_of(greatest_rule(steps)), 2 * steps)
            self.assertEqual(defects(greatest_rule(steps), 2 * steps + 1)[-1], (1, factorial(2 * steps + 1)))
        for rule in some_rules(80):
            order = order_of(rule)
            found = defects(rule, order + 1)
            self.assertEqual([each == NIL for each in found], [True] * (order + 1) + [False])

    def test_error_numbers(self):
        told = [(1, 2), (-1, 2), (-1, 12), (1, 6), (-1, 3), (1, 36), TWO, (-1, 2), (-1, 4)]
        self.assertEqual([error_number(each) for each in DOCUMENT], told)
        self.assertEqual(error_number((((-1, 1), NIL, ONE), ((1, 3), (4, 3), (1, 3)))), (-1, 180))
        for rule in some_rules(80):
            total = sum(python_of(each) for each in rule[1])
            found = error_number(rule)
            if total == 0:
                self.assertIsNone(found)
            else:
                self.assertEqual(found, pair_of(told_defect(rule, order_of(rule) + 1) / total))

    def test_no_error_number(self):
        self.assertIsNone(error_number(((ONE, ONE), (NIL, NIL))))
        self.assertIsNone(error_number((LESS_ONE, (ONE, (-1, 1)))))
        self.assertIsNone(error_number((((-1, 1), NIL, ONE), (HALF, HALF, (-1, 1)))))

    def test_what_stays_when_a_rule_is_multiplied_by_a_number(self):
        for rule in some_rules(40, range(1, 9)) + list(DOCUMENT):
            for factor in (Fraction(-1), Fraction(5, 3), Fraction(-2, HUGE)):
                made = scaled(rule, factor)
                for function in (steps_of, normed, is_explicit, order_of, error_number):
                    self.assertEqual(function(made), function(rule))
                told = tuple(pair_of(factor * python_of(each)) for each in defects(rule, 5))
                self.assertEqual(defects(made, 5), told)

    def test_great_numbers_made_by_the_package(self):
        grown = normed(scaled(GREAT, Fraction(HUGE, HUGE + 4)))
        self.assertEqual(normed(normed(grown)), grown)
        self.assertEqual(order_of(grown), -1)
        self.assertEqual(error_number(grown), error_number(GREAT))


class WrongInputs(WrongCase):

    def test_what_is_no_rule(self):
        for odd in ODD_RULES:
            for function in UNARY:
                self.check_raises(InvalidRule, odd, function, odd)
                self.check_raises(InvalidRule, odd, function, rule=odd)
            self.check_raises(InvalidRule, odd, defects, odd, 1)
            self.check_raises(InvalidRule, odd, defects, number=1, rule=odd)

    def test_what_is_no_number(self):
        for odd in odd_numbers(0, 40):
            self.check_raises(InvalidNumber, odd, defects, EULER, odd)
            self.check_raises(InvalidNumber, odd, defects, number=odd, rule=FLAT)

    def test_the_rule_is_checked_first(self):
        odd = [EULER]
        self.check_raises(InvalidRule, odd, defects, odd, 41)
        self.check_raises(InvalidRule, odd, defects, number=None, rule=odd)


class Interface(unittest.TestCase):

    def test_names_of_the_parameters(self):
        told = {"is_rule": ["value"], "defects": ["rule", "number"]}
        for function in UNARY:
            told[function.__name__] = ["rule"]
        for name, parameters in told.items():
            function = getattr(rules, name)
            self.assertEqual(list(inspect.signature(function).parameters), parameters)
            self.assertEqual(function.__module__, "legsteps.rules")

    def test_the_examples_of_the_document(self):
        six = (EULER, BACK_EULER, HALVES, LEAP, TWIN, WILD)
        self.assertEqual([order_of(each) for each in six], [1, 1, 2, 2, 2, 3])
        self.assertEqual([error_number(each) for each in six], [(1, 2), (-1, 2), (-1, 12), (1, 6), (-1, 3), (1, 36)])
        self.assertEqual(
            [steps_of(TWIN), first_of(LEAP), second_of(LEAP), normed(TWIN), is_explicit(LEAP), is_explicit(TWIN),
             defects(WILD, 4), is_rule(((ONE,), (ONE,)))],
            [2, ((-1, 1), (0, 1), (1, 1)), ((0, 1), (2, 1)), (((1, 3), (-4, 3), (1, 1)), ((0, 1), (0, 1), (2, 3))), True,
             False, ((0, 1), (0, 1), (0, 1), (0, 1), (1, 6)), False],
        )


if __name__ == "__main__":
    unittest.main()
