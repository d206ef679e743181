"""Point 33: runs of y' = q y and of y' = a polynomial of t, and local errors."""

import inspect
import unittest
from fractions import Fraction
from random import Random

from legsteps import runs
from legsteps.bests import adams, backward, moulton
from legsteps.errors import (
    InvalidFraction, InvalidNumber, InvalidPolynomial, InvalidRule, InvalidSize, InvalidStarts, LostStep,
)
from legsteps.numbers import is_fraction
from legsteps.rules import defects, order_of, steps_of
from legsteps.runs import local_error, slope_run
from legsteps.runs import test_run as led_run
from samples import (
    BACK_EULER, EULER, FLAT, FRACTIONS, HALF, HALVES, HUGE, LEAP, NIL, ONE, SLOW, THREE, TWIN, TWO, WILD, pair_of, polynomial_of,
    python_of, rule_of, scaled, some_polynomials, some_rules,
)
from wrongs import ODD_ABOVE_0, ODD_FRACTIONS, ODD_POLYNOMIALS, ODD_RULES, ODD_STARTS, WrongCase, odd_numbers

RULES = (EULER, BACK_EULER, HALVES, LEAP, TWIN, WILD, FLAT, SLOW, THREE, adams(4), moulton(3), backward(6))
SIZES = (ONE, HALF, (7, 3), (1, HUGE), (HUGE, 3))


def python_rule(rule):
    return [[python_of(each) for each in row] for row in rule]


def python_row(row):
    return [python_of(each) for each in row]


def told_at(numbers, t):
    """The worth of a row of Python's fractions."""
    return sum(each * t ** power for power, each in enumerate(numbers))


def slope_of(numbers):
    return [power * each for power, each in enumerate(numbers)][1:]


def test_run_by_hand(rule, q, starts, length):
    first, second = python_rule(rule)
    found = python_row(starts)
    for at in range(length):
        total = sum((a - q * b) * y for a, b, y in zip(first[:-1], second, found[at:]))
        found.append(-total / (first[-1] - q * second[-1]))
    return tuple(pair_of(each) for each in found)


def slope_run_by_hand(rule, numbers, size, starts, length):
    first, second = python_rule(rule)
    found = python_row(starts)
    for at in range(length):
        slopes = size * sum(b * told_at(numbers, (at + to) * size) for to, b in enumerate(second))
        found.append((slopes - sum(a * y for a, y in zip(first[:-1], found[at:]))) / first[-1])
    return tuple(pair_of(each) for each in found)


def error_by_hand(rule, numbers, size, place):
    first, second = python_rule(rule)
    slopes = slope_of(numbers)
    return sum(a * told_at(numbers, (place + at) * size) - size * b * told_at(slopes, (place + at) * size)
               for at, (a, b) in enumerate(zip(first, second)))


def some_starts(steps, random):
    return tuple(pair_of(Fraction(random.randint(-9, 9), random.randint(1, 5))) for _ in range(steps))


class TestRuns(WrongCase):

    def check(self, rule, q, starts, length):
        found = led_run(rule, pair_of(q), starts, length)
        self.assertEqual(found, test_run_by_hand(rule, q, starts, length))
        self.assertEqual(led_run(length=length, starts=starts, fraction=pair_of(q), rule=rule), found)
        self.assertEqual(len(found), steps_of(rule) + length)
        self.assertEqual(found[:steps_of(rule)], starts)
        self.assertTrue(all(is_fraction(each) for each in found))
        return found

    def test_by_hand(self):
        self.assertEqual(self.check(EULER, Fraction(-1, 2), (ONE,), 3), (ONE, HALF, (1, 4), (1, 8)))
        self.assertEqual(self.check(BACK_EULER, Fraction(-1), (TWO,), 3), (TWO, ONE, HALF, (1, 4)))
        self.assertEqual(self.check(HALVES, Fraction(-2), (ONE,), 2), (ONE, NIL, NIL))
        self.assertEqual(self.check(LEAP, Fraction(1), (NIL, ONE), 3), (NIL, ONE, TWO, (5, 1), (12, 1)))
        self.assertEqual(self.check(WILD, Fraction(0), (NIL, ONE), 3), (NIL, ONE, (-4, 1), (21, 1), (-104, 1)))

    def test_lengths_0_1_and_60(self):
        random = Random(101)
        for rule in RULES + tuple(some_rules(16, range(1, 9))):
            for length in (0, 1, 60):
                first, second = python_rule(rule)
                q = Fraction(random.randint(-9, 9), 7)
                if first[-1] != q * second[-1]:
                    self.check(rule, q, some_starts(steps_of(rule), random), length)
        self.assertEqual(self.check(LEAP, Fraction(3), (ONE, TWO), 0), (ONE, TWO))

    def test_any_fraction(self):
        for rule in RULES:
            for fraction in FRACTIONS:
                if python_of(rule[0][-1]) != python_of(fraction) * python_of(rule[1][-1]):
                    self.check(rule, python_of(fraction), tuple(FRACTIONS[:steps_of(rule)]), 5)

    def test_multiples_of_the_rule(self):
        for rule in RULES[:6]:
            starts = (ONE, TWO)[:steps_of(rule)]
            for factor in (-1, Fraction(3, 7), HUGE):
                self.assertEqual(led_run(scaled(rule, factor), (-1, 3), starts, 9), led_run(rule, (-1, 3), starts, 9))

    def test_a_lost_step_whatever_the_length(self):
        for rule, q in ((BACK_EULER, 1), (HALVES, 2), (TWIN, Fraction(3, 2)), (rule_of((1, HUGE), (1, 3)), Fraction(HUGE, 3)),
                        (rule_of((0, 0, 1), (0, 0, -1)), -1), (rule_of((1, 3), (1, 3)), 1)):
            for length in (0, 1, 60):
                self.check_bare(LostStep, led_run, rule, pair_of(q), (ONE,) * steps_of(rule), length)
                self.check_bare(LostStep, led_run, length=length, starts=(NIL,) * steps_of(rule), fraction=pair_of(q), rule=rule)
            self.check(rule, q + Fraction(1, HUGE), (ONE,) * steps_of(rule), 3)

    def test_what_was_returned_may_be_passed(self):
        found = led_run(rule_of((HUGE, 1, -HUGE), (1, 2, 3)), (1, 7), (ONE, HALF), 12)
        self.check(LEAP, Fraction(-1, 2), found[-2:], 60)
        self.check(EULER, python_of(found[9]), found[12:13], 4)


class SlopeRuns(WrongCase):

    def check(self, rule, numbers, size, starts, length):
        polynomial = polynomial_of(numbers)
        found = slope_run(rule, polynomial, pair_of(size), starts, length)
        self.assertEqual(found, slope_run_by_hand(rule, numbers, size, starts, length))
        named = {"length": length, "starts": starts, "size": pair_of(size), "polynomial": polynomial, "rule": rule}
        self.assertEqual(slope_run(**named), found)
        self.assertEqual(len(found), steps_of(rule) + length)
        self.assertEqual(found[:steps_of(rule)], starts)
        self.assertTrue(all(is_fraction(each) for each in found))
        return found

    def test_by_hand(self):
        self.assertEqual(self.check(EULER, [0, 2], 1, (NIL,), 3), (NIL, NIL, TWO, (6, 1)))
        self.assertEqual(self.check(HALVES, [0, 2], 1, (NIL,), 3), (NIL, ONE, (4, 1), (9, 1)))
        self.assertEqual(self.check(BACK_EULER, [0, 2], 1, (NIL,), 3), (NIL, TWO, (6, 1), (12, 1)))
        self.assertEqual(self.check(EULER, [3], Fraction(1, 2), (ONE,), 2), (ONE, (5, 2), (4, 1)))
        self.assertEqual(self.check(LEAP, [0, 0, 3], 1, (NIL, ONE), 2), (NIL, ONE, (6, 1), (25, 1)))

    def test_the_nought_polynomial(self):
        random = Random(102)
        for rule in RULES:
            starts = some_starts(steps_of(rule), random)
            for size in SIZES:
                self.assertEqual(self.check(rule, [], python_of(size), starts, 9), led_run(rule, NIL, starts, 9))

    def test_lengths_0_1_and_60(self):
        random = Random(103)
        for rule in RULES + tuple(some_rules(8, range(1, 9))):
            for length in (0, 1, 60):
                numbers = [Fraction(random.randint(-5, 5), random.randint(1, 4)) for _ in range(3)] + [1]
                self.check(rule, numbers, Fraction(random.randint(1, 5), 3), some_starts(steps_of(rule), random), length)

    def test_drawn_polynomials(self):
        random = Random(104)
        for polynomial in some_polynomials(30):
            for rule in (HALVES, THREE, some_rules(1, (2,), seed=3)[0]):
                for size in SIZES:
                    self.check(rule, python_row(polynomial), python_of(size), some_starts(steps_of(rule), random), 4)

    def test_starts_on_a_polynomial_up_to_the_order(self):
        random = Random(105)
        for rule in RULES[:6] + RULES[8:] + (scaled(adams(3), -2), moulton(8)):
            for degree in range(order_of(rule) + 1):
                numbers = [Fraction(random.randint(-5, 5), random.randint(1, 4)) for _ in range(degree)] + [Fraction(2, 3)]
                for size in (Fraction(1), Fraction(2, 7)):
                    starts = tuple(pair_of(told_at(numbers, at * size)) for at in range(steps_of(rule)))
                    found = self.check(rule, slope_of(numbers), size, starts, 20)
                    for at, each in enumerate(found):
                        self.assertEqual(python_of(each), told_at(numbers, at * size))

    def test_a_degree_above_the_order(self):
        for rule in RULES[:6] + RULES[8:]:
            numbers = [0] * (order_of(rule) + 1) + [1]
            starts = tuple(pair_of(at ** (order_of(rule) + 1)) for at in range(steps_of(rule)))
            found = self.check(rule, slope_of(numbers), Fraction(1), starts, 1)
            self.assertNotEqual(found[-1], pair_of(steps_of(rule) ** (order_of(rule) + 1)))

    def test_multiples_of_the_rule(self):
        for rule in RULES:
            starts = (ONE, TWO, HALF, ONE, TWO, HALF)[:steps_of(rule)]
            for factor in (-1, Fraction(3, 7), HUGE):
                told = slope_run(rule, (ONE, TWO), HALF, starts, 9)
                self.assertEqual(slope_run(scaled(rule, factor), (ONE, TWO), HALF, starts, 9), told)

    def test_long_polynomials_and_great_numbers(self):
        numbers = [Fraction(each - 30, each + 1) for each in range(59)] + [1]
        self.check(HALVES, numbers, Fraction(1, 2), (ONE,), 60)
        self.check(rule_of((HUGE, 1, Fraction(1, HUGE)), (1, HUGE, 0)), [HUGE, Fraction(1, HUGE)], Fraction(HUGE, 7), (ONE, (1, HUGE)), 6)


class LocalErrors(WrongCase):

    def check(self, rule, numbers, size, place):
        polynomial = polynomial_of(numbers)
        found = local_error(rule, polynomial, pair_of(size), place)
        self.assertEqual(found, pair_of(error_by_hand(rule, numbers, size, place)))
        self.assertEqual(local_error(number=place, size=pair_of(size), polynomial=polynomial, rule=rule), found)
        self.assertTrue(is_fraction(found))
        return python_of(found)

    def test_by_hand(self):
        self.assertEqual(self.check(EULER, [0, 0, 1], 1, 0), 1)
        self.assertEqual(self.check(EULER, [0, 0, 1], Fraction(1, 3), 60), Fraction(1, 9))
        self.assertEqual(self.check(HALVES, [0, 0, 1], 1, 7), 0)
        self.assertEqual(self.check(FLAT, [3], 1, 5), 6)
        self.assertEqual(self.check(scaled(EULER, -5), [0, 0, 1], 1, 0), -5)
        self.assertEqual(self.check(SLOW, [0, 1], 2, 9), -2)

    def test_the_nought_polynomial_and_numbers(self):
        for rule in RULES:
            for size in SIZES:
                for place in (0, 60):
                    self.assertEqual(self.check(rule, [], python_of(size), place), 0)
                    told = self.check(rule, [Fraction(5, 2)], python_of(size), place)
                    self.assertEqual(told, Fraction(5, 2) * sum(python_of(each) for each in rule[0]))

    def test_polynomials_up_to_the_order_and_the_next_power(self):
        random = Random(106)
        for rule in RULES + tuple(some_rules(30, range(1, 9))):
            order = order_of(rule)
            for place in (0, 1, 60):
                for size in (Fraction(1), Fraction(3, 7), Fraction(1, HUGE)):
                    for degree in range(order + 1):
                        numbers = [Fraction(random.randint(-5, 5), 3) for _ in range(degree)] + [7]
                        self.assertEqual(self.check(rule, numbers, size, place), 0)
                    told = self.check(rule, [0] * (order + 1) + [1], size, place)
                    # C_(p+1) times the slope of that degree, which is the same all over.
                    grown = size ** (order + 1)
                    for each in range(2, order + 2):
                        grown *= each
                    self.assertEqual(told, python_of(defects(rule, order + 1)[-1]) * grown)
                    self.assertNotEqual(told, 0)

    def test_sums(self):
        random = Random(107)
        for rule in RULES + tuple(some_rules(10, range(1, 9))):
            for place in (0, 60):
                first, second = [[Fraction(random.randint(-5, 5), 3) for _ in range(6)] + [each] for each in (1, 2)]
                size, factor = Fraction(random.randint(1, 9), 4), Fraction(-3, 7)
                both = [each + factor * other for each, other in zip(first, second)]
                self.assertEqual(
                    self.check(rule, both, size, place),
                    self.check(rule, first, size, place) + factor * self.check(rule, second, size, place),
                )

    def test_at_0_the_defects_add_up(self):
        for rule in RULES:
            numbers = [Fraction(2), Fraction(-1, 3), 5, Fraction(7, 2), 1]
            slope, size, total, powers = numbers, Fraction(2, 3), 0, 1
            for each in defects(rule, 4):
                total += python_of(each) * powers * slope[0]
                slope, powers = slope_of(slope), powers * size
            self.assertEqual(self.check(rule, numbers, size, 0), total)

    def test_long_polynomials_and_great_numbers(self):
        numbers = [Fraction(each - 30, each + 1) for each in range(59)] + [1]
        for place in (0, 60):
            self.check(moulton(8), numbers, Fraction(1, 2), place)
            self.check(rule_of((HUGE, 1, Fraction(1, HUGE)), (1, HUGE, 0)), [HUGE, 1, Fraction(1, HUGE)], Fraction(HUGE, 7), place)


class WrongInputs(WrongCase):

    TEST = {"rule": EULER, "fraction": HALF, "starts": (ONE,), "length": 3}
    SLOPE = {"rule": EULER, "polynomial": (ONE,), "size": HALF, "starts": (ONE,), "length": 3}
    LOCAL = {"rule": EULER, "polynomial": (ONE,), "size": HALF, "number": 3}

    def test_what_is_no_rule(self):
        for function, good in ((led_run, self.TEST), (slope_run, self.SLOPE), (local_error, self.LOCAL)):
            self.check_odd(InvalidRule, ODD_RULES, function, good, "rule")

    def test_what_is_no_fraction_polynomial_or_size(self):
        self.check_odd(InvalidFraction, ODD_FRACTIONS, led_run, self.TEST, "fraction")
        for function, good in ((slope_run, self.SLOPE), (local_error, self.LOCAL)):
            self.check_odd(InvalidPolynomial, ODD_POLYNOMIALS, function, good, "polynomial")
            self.check_odd(InvalidSize, ODD_ABOVE_0, function, good, "size")

    def test_what_is_no_number(self):
        self.check_odd(InvalidNumber, odd_numbers(0, 60), led_run, self.TEST, "length")
        self.check_odd(InvalidNumber, odd_numbers(0, 60), slope_run, self.SLOPE, "length")
        self.check_odd(InvalidNumber, odd_numbers(0, 60), local_error, self.LOCAL, "number")

    def test_what_are_no_starts(self):
        for odd, index in ODD_STARTS:
            for function, good in ((led_run, self.TEST), (slope_run, self.SLOPE)):
                row = {**good, "rule": LEAP, "starts": odd}
                self.check_index(InvalidStarts, index, function, *row.values())
                self.check_index(InvalidStarts, index, function, **dict(reversed(list(row.items()))))
        for steps in range(1, 9):
            for at in range(steps):
                starts = (ONE,) * at + (1,) * (steps - at)
                self.check_index(InvalidStarts, at, led_run, adams(steps), NIL, starts, 0)
                self.check_index(InvalidStarts, at, slope_run, adams(steps), (), ONE, starts, 0)
            for many in (steps - 1, steps + 1):
                self.check_index(InvalidStarts, None, led_run, adams(steps), NIL, (None,) * many, 0)
                self.check_index(InvalidStarts, None, slope_run, adams(steps), (), ONE, (ONE,) * many, 0)

    def test_the_order_of_the_checks(self):
        rule, length = ([EULER], InvalidRule, None), (61, InvalidNumber, None)
        polynomial, size, starts = ((NIL,), InvalidPolynomial, None), (NIL, InvalidSize, None), ((ONE, 1), InvalidStarts, 1)
        good = {"rule": TWIN, "fraction": (3, 2), "starts": (ONE, ONE), "length": 3}
        self.check_order(led_run, good, {"rule": rule, "fraction": (1, InvalidFraction, None), "starts": starts, "length": length})
        good = {"rule": TWIN, "polynomial": (), "size": ONE, "starts": (ONE, ONE), "length": 3}
        self.check_order(slope_run, good, {"rule": rule, "polynomial": polynomial, "size": size, "starts": starts, "length": length})
        good = {"rule": TWIN, "polynomial": (), "size": ONE, "number": 3}
        self.check_order(local_error, good, {"rule": rule, "polynomial": polynomial, "size": size, "number": length})


class Interface(unittest.TestCase):

    def test_names_of_the_parameters(self):
        told = {
            "test_run": ["rule", "fraction", "starts", "length"], "slope_run": ["rule", "polynomial", "size", "starts", "length"],
            "local_error": ["rule", "polynomial", "size", "number"],
        }
        for name, parameters in told.items():
            function = getattr(runs, name)
            self.assertEqual(list(inspect.signature(function).parameters), parameters)
            self.assertEqual(function.__module__, "legsteps.runs")

    def test_the_examples_of_the_document(self):
        self.assertEqual(
            [led_run(EULER, (-1, 2), (ONE,), 3), slope_run(EULER, (NIL, TWO), ONE, (NIL,), 3),
             slope_run(HALVES, (NIL, TWO), ONE, (NIL,), 3), local_error(EULER, (NIL, NIL, ONE), ONE, 0),
             local_error(HALVES, (NIL, NIL, ONE), ONE, 7)],
            [((1, 1), (1, 2), (1, 4), (1, 8)), ((0, 1), (0, 1), (2, 1), (6, 1)), ((0, 1), (1, 1), (4, 1), (9, 1)), (1, 1), (0, 1)],
        )


if __name__ == "__main__":
    unittest.main()
