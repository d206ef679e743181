"""Points 3 and 6: whole numbers, fractions and points."""

import inspect
import unittest

from legsteps import numbers
from legsteps.arithmetic import as_fraction, quotient_of, raw_product, sum_of
from legsteps.numbers import is_fraction, is_point, is_whole
from samples import FRACTIONS, HALF, HUGE, NIL, ODD_PAIRS, ODD_ROWS, ODD_VALUES, ONE, pair_of, python_of


class Fractions(unittest.TestCase):

    def test_fractions(self):
        for value in FRACTIONS:
            self.assertIs(is_fraction(value), True, value)
            self.assertIs(is_fraction(value=value), True, value)

    def test_what_is_none(self):
        for value in ODD_VALUES + ODD_PAIRS + ODD_ROWS + ((), (ONE, ONE), (ONE,)):
            self.assertIs(is_fraction(value), False)
            self.assertIs(is_fraction(value=value), False)

    def test_just_the_reduced_pairs_with_parts_above_0(self):
        for number in range(-12, 13):
            for parts in range(-12, 13):
                told = parts > 0 and pair_of(python_of((number, parts))) == (number, parts)
                self.assertIs(is_fraction((number, parts)), told, (number, parts))

    def test_large_numbers(self):
        self.assertIs(is_fraction((HUGE * 3, HUGE * 3 + 1)), True)
        self.assertIs(is_fraction((HUGE * 3, HUGE * 7)), False)
        self.assertIs(is_fraction((3 ** 9000, 2 ** 15000)), True)
        self.assertIs(is_fraction((3 ** 9000, 3 * 2 ** 15000)), False)

    def test_whole_numbers(self):
        for value in (0, 1, -1, HUGE, -HUGE):
            self.assertIs(is_whole(value), True)
        for value in (True, False, None, "1", b"1", (1,), [1], python_of(ONE), object()):
            self.assertIs(is_whole(value), False)


class Points(unittest.TestCase):

    def test_points(self):
        for across in FRACTIONS:
            for along in FRACTIONS:
                self.assertIs(is_point((across, along)), True)
                self.assertIs(is_point(value=(across, along)), True)

    def test_what_is_none(self):
        for value in ODD_VALUES + ODD_PAIRS + ODD_ROWS + FRACTIONS:
            self.assertIs(is_point(value), False)
            self.assertIs(is_point(value=value), False)

    def test_both_parts_have_to_be_fractions(self):
        for value in ODD_VALUES + ODD_PAIRS + ODD_ROWS:
            self.assertIs(is_point((value, ONE)), False)
            self.assertIs(is_point((NIL, value)), False)

    def test_lists_and_other_lengths(self):
        for value in ([NIL, ONE], (NIL,), (NIL, ONE, HALF), (), ([0, 1], ONE), (ONE, [0, 1]), ((NIL, ONE), (NIL, ONE))):
            self.assertIs(is_point(value), False)


class Interface(unittest.TestCase):

    def test_names_of_the_parameters(self):
        for name in ("is_fraction", "is_point"):
            function = getattr(numbers, name)
            self.assertEqual(list(inspect.signature(function).parameters), ["value"])
            self.assertEqual(function.__module__, "legsteps.numbers")


class Arithmetic(unittest.TestCase):

    def test_answers_are_reduced(self):
        for number in range(-6, 7):
            for parts in (-6, -4, -1, 1, 2, 3, 6):
                made = as_fraction(number, parts)
                self.assertTrue(is_fraction(made))
                self.assertEqual(made[0] * parts, made[1] * number)

    def test_sums_products_quotients(self):
        for first in FRACTIONS:
            for other in FRACTIONS:
                left, right = python_of(first), python_of(other)
                self.assertEqual(sum_of([first, other, first]), pair_of(left + right + left))
                self.assertEqual(as_fraction(*raw_product(first, other)), pair_of(left * right))
                if other != NIL:
                    self.assertEqual(quotient_of(first, other), pair_of(left / right))
        self.assertEqual(sum_of([]), NIL)
        self.assertEqual(sum_of([(2, 4), (0, 7), (-3, 6)]), NIL)


if __name__ == "__main__":
    unittest.main()
