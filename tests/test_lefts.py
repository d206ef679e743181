"""Points 24 to 26: the waves, safe rules, wedges and what is not damped there."""

import inspect
import unittest
from fractions import Fraction
from math import tan, radians
from random import Random

from legsteps import lefts
from legsteps.bests import backward, best_first
from legsteps.errors import InvalidNumber, InvalidRule, InvalidSlope, LostStep
from legsteps.lefts import is_safe, is_safe_in, real_wave, side_wave, slope_near, unsafe_point, unsafe_point_in
from legsteps.numbers import is_point
from legsteps.polys import worth
from legsteps.rules import first_of, second_of
from legsteps.spots import point_word
from legsteps.wedges import greatest_from, laid_waves, likely_slope
from samples import (
    BACK_EULER, EULER, FLAT, HALVES, HUGE, LEAP, NIL, ONE, SLOW, THREE, TWIN, TWO, WILD, pair_of, polynomial_of, python_of,
    rule_of, scaled, some_rules, times_both,
)
from wrongs import ODD_PAIRS, ODD_ROWS, ODD_RULES, ODD_VALUES, WrongCase, odd_numbers

ODD_SLOPES = ODD_VALUES + ODD_PAIRS + ODD_ROWS + (NIL, (-1, 1), (-1, 2), (-HUGE, 3), (ONE, ONE), (ONE,), (1, 1, 1), [1, 2], "1/2")
STEEP = (HUGE, 1)


def mixed(share):
    """The rule of one step with this share of the new slope: safe for a share from a half on."""
    return rule_of((-1, 1), (1 - share, share))


def wedge_rules(many, seed=41):
    """Rules that mostly damp (-1, 0), and some of which are safe in a wedge alone."""
    random = Random(seed)
    found = []
    while len(found) < many:
        steps = random.randint(2, 5)
        row = [Fraction(random.randint(-2, 2), random.randint(3, 12)) for _ in range(steps)] + [1]
        try:
            found.append(best_first(polynomial_of(row), steps))
        except LostStep:
            continue
    return found


class Waves(unittest.TestCase):

    def test_by_hand(self):
        self.assertEqual(real_wave(EULER), ((-1, 1), ONE))
        self.assertEqual(side_wave(EULER), (ONE,))
        self.assertEqual(real_wave(TWIN), ((3, 2), (-2, 1), (1, 2)))
        self.assertEqual(side_wave(TWIN), (TWO, (-1, 2)))
        self.assertEqual(side_wave(LEAP), ((4, 1),))
        for rule in (HALVES, LEAP):
            self.assertEqual(real_wave(rule), ())
        for rule in (rule_of((1, 2), (0, 0)), rule_of((1, 3, 1), (0, 0, 0))):
            self.assertEqual((real_wave(rule), side_wave(rule)), ((), ()))
        self.assertEqual(side_wave(rule_of((1, 3, 1), (2, 5, 2))), ())

    def test_the_numbers_are_those_that_are_passed(self):
        self.assertEqual(real_wave(scaled(EULER, 3)), ((-9, 1), (9, 1)))
        self.assertEqual(side_wave(scaled(TWIN, Fraction(-1, 2))), ((1, 2), (-1, 8)))

    def test_at_drawn_turns(self):
        turns = [(Fraction(1 - n * n, 1 + n * n), 2 * n / (1 + n * n)) for n in map(Fraction, ("0", "1/3", "2", "-5/4", "7"))]
        turns.append((Fraction(-1), Fraction(0)))
        for rule in some_rules(80, range(1, 9)) + [EULER, HALVES, THREE, WILD]:
            waves = [[python_of(each) for each in wave] for wave in (real_wave(rule), [NIL, *side_wave(rule)])]
            for wave in (real_wave(rule), side_wave(rule)):
                self.assertTrue(not wave or wave[-1] != NIL)
                self.assertIsInstance(wave, tuple)
            for across, along in turns:
                place = (pair_of(across), pair_of(along))
                (x, y), (u, v) = [[python_of(part) for part in worth(row, place)] for row in (first_of(rule), second_of(rule))]
                power, real, side = (Fraction(1), Fraction(0)), 0, 0
                for at in range(9):
                    real += waves[0][at] * power[0] if at < len(waves[0]) else 0
                    side += waves[1][at] * power[1] if at < len(waves[1]) else 0
                    power = (power[0] * across - power[1] * along, power[0] * along + power[1] * across)
                self.assertEqual((real, side), (x * u + y * v, y * u - x * v))


class Safe(unittest.TestCase):

    def check(self, rule, safe):
        for each in (rule, scaled(rule, Fraction(-4, 3))):
            found = unsafe_point(each)
            self.assertIs(is_safe(each), safe)
            self.assertIs(is_safe(rule=each), safe)
            self.assertEqual(unsafe_point(rule=each), found)
            if safe:
                self.assertIsNone(found)
                self.assertIsNone(unsafe_point_in(each, STEEP))
                self.assertIsNone(slope_near(each, 7))
            else:
                self.assertTrue(is_point(found))
                self.assertLess(found[0][0], 0)
                self.assertNotEqual(point_word(rule, found), "damped")
                self.assertIsNotNone(slope_near(each, 7))

    def test_rules_that_are_safe(self):
        for rule in (BACK_EULER, HALVES, TWIN, rule_of((0, 1), (0, 1)), rule_of((-1, 3), (0, 1))):
            self.check(rule, True)

    def test_rules_that_are_not(self):
        for rule in (EULER, LEAP, WILD, FLAT, SLOW, THREE, rule_of((-1, 0, 1), (1, 4, 1)), rule_of((0, -1), (0, 1))):
            self.check(rule, False)
        for steps in range(3, 9):
            self.check(backward(steps), False)

    def test_just_safe_and_just_not(self):
        small = Fraction(1, HUGE)
        for share, safe in ((Fraction(1, 2), True), (Fraction(1, 2) + small, True), (Fraction(1, 2) - small, False), (1, True), (0, False)):
            self.check(mixed(share), safe)
        for shift, safe in ((0, True), (small, True), (-small, False)):
            # With all q moved to the left or to the right.
            self.check(rule_of([python_of(a) + shift * python_of(b) for a, b in zip(*TWIN)], (0, 0, 1)), safe)

    def test_below_0_at_one_turn_between(self):
        # The real wave is the square of 2 c - 1, by 4, or next to it: w is 1 / z, and q is a + b w + w w / 2.
        for shift, safe in ((0, True), (Fraction(1, HUGE), True), (Fraction(-1, HUGE), False), (Fraction(-1, 10 ** 30), False)):
            self.check(rule_of((Fraction(1, 2), -1, Fraction(3, 4) + shift), (0, 0, 1)), safe)

    def test_second_polynomials_that_are_nought(self):
        self.check(rule_of((1, 2), (0, 0)), True)
        self.check(rule_of((0, 0, 1), (0, 0, 0)), True)
        for row in ((1, 1), (2, 1), (-1, 0, 1), (1, 2, 1)):
            self.check(rule_of(row, [0] * len(row)), False)

    def test_a_last_b_that_is_0(self):
        for rule in some_rules(60):
            if rule[1][-1] == NIL and second_of(rule):
                self.check(rule, False)
        self.check(rule_of((0, 0, 5), (0, 1, 0)), False)
        self.check(rule_of((0, 1), (1, 0)), False)

    def test_common_roots(self):
        for rule in (HALVES, TWIN, BACK_EULER):
            for factor in ((1, 1), (-1, 1), (1, 0, 1), (5, -6, 5), (2, 1)):
                self.check(times_both(rule, factor), False)
            for factor in ((1, 2), (0, 1), (1, 0, 3)):
                self.check(times_both(rule, factor), True)

    def test_drawn_points_of_safe_rules(self):
        random = Random(42)
        count = 0
        for rule in wedge_rules(60) + some_rules(60):
            if is_safe(rule):
                count += 1
                for _ in range(5):
                    point = (pair_of(Fraction(-random.randint(1, 99), random.randint(1, 9))),
                             pair_of(Fraction(random.randint(-99, 99), random.randint(1, 9))))
                    self.assertEqual(point_word(rule, point), "damped")
            self.check(rule, is_safe(rule))
        self.assertGreater(count, 10)


class Wedges(unittest.TestCase):

    def check_unsafe(self, rule, slope):
        found = unsafe_point_in(rule, slope)
        self.assertIs(is_safe_in(rule, slope), False)
        self.assertIs(is_safe_in(slope=slope, rule=rule), False)
        self.assertEqual(unsafe_point_in(slope=slope, rule=rule), found)
        self.assertTrue(is_point(found))
        across, along = map(python_of, found)
        self.assertLess(across, 0)
        self.assertLess(abs(along), -across * python_of(slope))
        self.assertNotEqual(point_word(rule, found), "damped")

    def check_safe(self, rule, slope):
        self.assertIs(is_safe_in(rule, slope), True)
        self.assertIs(is_safe_in(slope=slope, rule=rule), True)
        self.assertIsNone(unsafe_point_in(rule, slope))

    def check_near(self, rule, many):
        """The slope that is told is safe, the next one is not."""
        found = slope_near(rule, many)
        self.assertEqual(slope_near(many=many, rule=rule), found)
        self.assertIsInstance(found, int)
        if found > 0:
            self.check_safe(rule, pair_of(Fraction(found, many)))
            self.check_safe(rule, pair_of(Fraction(found, 2 * many)))
        self.check_unsafe(rule, pair_of(Fraction(found + 1, many)))
        self.check_unsafe(rule, pair_of(Fraction(3 * found + 3, many)))
        return found

    def test_greatest_slopes(self):
        self.assertEqual(self.check_near(THREE, 10), 144)
        self.assertEqual(self.check_near(THREE, 1), 14)
        self.assertEqual(self.check_near(THREE, 10 ** 12) // 10 ** 8, 144177)
        # The angles of the backward rules as they are told in books.
        for steps, angle in ((3, 86.03), (4, 73.35), (5, 51.84), (6, 17.84)):
            found = self.check_near(backward(steps), 10 ** 6)
            self.assertEqual(likely_slope(laid_waves(backward(steps)), 10 ** 6), found)
            self.assertTrue(tan(radians(angle - 0.01)) < found / 10 ** 6 < tan(radians(angle + 0.01)))

    def test_a_greatest_slope_that_is_a_fraction(self):
        # At z = i the point is - 2 / 9 - i / 3, where the line from 0 with the slope 3 / 2 touches all such points.
        rule = rule_of((Fraction(3, 2), 2, Fraction(11, 6), Fraction(16, 9)), (0, 0, 0, 1))
        self.check_safe(rule, (3, 2))
        self.check_unsafe(rule, pair_of(Fraction(3, 2) + Fraction(1, HUGE)))
        self.check_safe(rule, pair_of(Fraction(3, 2) - Fraction(1, HUGE)))
        for many, told in ((1, 1), (2, 3), (3, 4), (10 ** 12, 15 * 10 ** 11), (10 ** 12 - 1, 15 * 10 ** 11 - 2)):
            self.assertEqual(self.check_near(rule, many), told)

    def test_0_and_none(self):
        for rule in (EULER, LEAP, WILD, FLAT, SLOW, backward(7), backward(8), times_both(HALVES, (1, 1)), mixed(Fraction(1, 3))):
            self.assertEqual(self.check_near(rule, 10), 0)
            self.assertEqual(slope_near(rule, 10 ** 12), 0)
            self.check_unsafe(rule, (1, 10 ** 9))
        for rule in (BACK_EULER, HALVES, TWIN, rule_of((1, 2), (0, 0))):
            self.assertIsNone(slope_near(rule, 1))
            self.assertIsNone(slope_near(rule, 10 ** 12))
            for slope in ((1, HUGE), ONE, STEEP):
                self.check_safe(rule, slope)
        self.assertEqual(slope_near(rule_of((2, 1), (0, 0)), 10), 0)
        self.check_unsafe(rule_of((2, 1), (0, 0)), (1, HUGE))

    def test_less_than_one_slope_of_those_told(self):
        # Safe in some wedge, but in none from 1 on.
        self.assertEqual(slope_near(backward(6), 1), 0)
        self.assertEqual(slope_near(backward(6), 3), 0)
        self.assertEqual(slope_near(backward(6), 4), 1)
        self.check_safe(backward(6), (1, 4))
        self.check_unsafe(backward(6), (1, 3))

    def test_great_slopes(self):
        for power in (1, 5, 30, 120):
            rule = rule_of((Fraction(1, 2), -1, Fraction(3, 4) - Fraction(1, 10 ** power)), (0, 0, 1))
            for many in (1, 10 ** 12):
                self.assertGreater(self.check_near(rule, many), 10 ** (power - 2) * many)

    def test_slopes_that_are_not_told_by_steady_places(self):
        # Whatever is thought to be likely, the answer is the same.
        for rule in wedge_rules(30) + [THREE, backward(5)]:
            waves = laid_waves(rule)
            if not is_safe(rule) and slope_near(rule, 10):
                told = slope_near(rule, 10)
                for guess in (0, 1, told - 1, told, told + 1, 3 * told + 100, 10 ** 6):
                    self.assertEqual(greatest_from(waves, 10, max(0, guess)), told)

    def test_lesser_and_greater_slopes(self):
        for many in (7, 1000):
            found = self.check_near(backward(4), many)
            for number in (1, found // 2, found):
                self.check_safe(backward(4), pair_of(Fraction(number, many)))
            for number in (found + 1, 2 * found, HUGE):
                self.check_unsafe(backward(4), pair_of(Fraction(number, many)))

    def test_what_stays_when_a_rule_is_multiplied_by_a_number_or_reduced(self):
        for factor in (Fraction(-7, 5), Fraction(1, HUGE)):
            self.assertEqual(slope_near(scaled(THREE, factor), 1000), slope_near(THREE, 1000))
        self.assertEqual(slope_near(times_both(THREE, (1, 2)), 1000), slope_near(THREE, 1000))

    def test_drawn_rules(self):
        random = Random(43)
        kinds = {}
        for rule in wedge_rules(60) + some_rules(30):
            if is_safe(rule):
                kinds[None] = True
                continue
            many = random.choice((1, 10, 1000))
            found = self.check_near(rule, many)
            kinds[found > 0] = True
            if found > 0:
                across = Fraction(-random.randint(1, 99), random.randint(1, 9))
                point = (pair_of(across), pair_of(-across * Fraction(random.randint(-found, found) * 9, 10 * many)))
                self.assertEqual(point_word(rule, point), "damped")
        self.assertEqual(len(kinds), 3)


class WrongInputs(WrongCase):

    def test_what_is_no_rule(self):
        for odd in ODD_RULES:
            for function in (real_wave, side_wave, is_safe, unsafe_point):
                self.check_raises(InvalidRule, odd, function, odd)
                self.check_raises(InvalidRule, odd, function, rule=odd)
            for function in (is_safe_in, unsafe_point_in):
                self.check_raises(InvalidRule, odd, function, odd, ONE)
            self.check_raises(InvalidRule, odd, slope_near, odd, 1)

    def test_what_is_no_slope(self):
        for odd in ODD_SLOPES:
            for function in (is_safe_in, unsafe_point_in):
                self.check_raises(InvalidSlope, odd, function, EULER, odd)
                self.check_raises(InvalidSlope, odd, function, slope=odd, rule=HALVES)

    def test_what_is_no_number(self):
        for odd in odd_numbers(1, 10 ** 12):
            self.check_raises(InvalidNumber, odd, slope_near, HALVES, odd)
            self.check_raises(InvalidNumber, odd, slope_near, many=odd, rule=EULER)

    def test_the_rule_is_checked_first(self):
        odd = [EULER]
        self.check_raises(InvalidRule, odd, slope_near, odd, 0)
        for function in (is_safe_in, unsafe_point_in):
            self.check_raises(InvalidRule, odd, function, slope=None, rule=odd)


class Interface(unittest.TestCase):

    def test_names_of_the_parameters(self):
        told = {
            "real_wave": ["rule"], "side_wave": ["rule"], "is_safe": ["rule"], "unsafe_point": ["rule"],
            "is_safe_in": ["rule", "slope"], "unsafe_point_in": ["rule", "slope"], "slope_near": ["rule", "many"],
        }
        for name, parameters in told.items():
            function = getattr(lefts, name)
            self.assertEqual(list(inspect.signature(function).parameters), parameters)
            self.assertEqual(function.__module__, "legsteps.lefts")

    def test_the_examples_of_the_document(self):
        self.assertEqual(
            [real_wave(EULER), side_wave(EULER), real_wave(HALVES), real_wave(TWIN), side_wave(TWIN), real_wave(LEAP),
             side_wave(LEAP)],
            [((-1, 1), (1, 1)), ((1, 1),), (), ((3, 2), (-2, 1), (1, 2)), ((2, 1), (-1, 2)), (), ((4, 1),)],
        )
        self.assertEqual(
            [is_safe(EULER), is_safe(BACK_EULER), is_safe(HALVES), is_safe(TWIN), is_safe(LEAP), is_safe(THREE),
             unsafe_point(TWIN)],
            [False, True, True, True, False, False, None],
        )
        self.assertEqual(
            [is_safe_in(THREE, (14, 1)), is_safe_in(THREE, (15, 1)), slope_near(THREE, 10), slope_near(EULER, 10),
             slope_near(TWIN, 10), is_safe_in(EULER, (1, 100)), unsafe_point_in(THREE, ONE)],
            [True, False, 144, 0, None, False, None],
        )


if __name__ == "__main__":
    unittest.main()
