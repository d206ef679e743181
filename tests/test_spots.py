"""Points 20 and 21: the test polynomial, what is lost, damped, kept or grows, and the far word."""

import inspect
import unittest
from fractions import Fraction
from random import Random

from legsteps import spots
from legsteps.errors import InvalidPoint, InvalidRule, LostStep
from legsteps.polys import worth
from legsteps.rules import first_of, second_of
from legsteps.spots import far_word, point_counts, point_word
from samples import (
    BACK_EULER, EULER, FLAT, HALF, HALVES, HUGE, LEAP, NIL, ONE, SLOW, THREE, TWIN, TWO, WILD, near_roots, pair_of,
    product_of, python_of, rule_of, scaled, some_rules,
)
from wrongs import ODD_POINTS, ODD_RULES, ORIGIN, WrongCase


def spot(across, along=0):
    return (pair_of(across), pair_of(along))


def python_spot(point):
    return complex(python_of(point[0]), python_of(point[1]))


class Words(unittest.TestCase):

    def check(self, rule, point, word, counts):
        """The point, its conjugate, and multiples of the rule."""
        mirrored = (point[0], pair_of(-python_of(point[1])))
        for each in (rule, scaled(rule, Fraction(-3, 5))):
            for place in (point, mirrored):
                self.assertEqual(point_word(each, place), word, (each, place))
                self.assertEqual(point_word(point=place, rule=each), word)
                if counts is None:
                    with self.assertRaises(LostStep):
                        point_counts(each, place)
                else:
                    self.assertEqual(point_counts(each, place), counts)
                    self.assertEqual(point_counts(point=place, rule=each), counts)

    def test_rules_of_one_step(self):
        # The length of the only root tells all.
        for rule in (EULER, BACK_EULER, HALVES, FLAT, SLOW) + tuple(some_rules(30, (1,))):
            (low, high), (early, late) = [[python_of(each) for each in row] for row in rule]
            for across in (-3, -2, Fraction(-3, 2), -1, Fraction(-1, 3), 0, Fraction(1, 2), 1, 2):
                for along in (0, Fraction(1, 2), 1, Fraction(4, 5), 3):
                    top = (high - across * late) ** 2 + (along * late) ** 2
                    below = (low - across * early) ** 2 + (along * early) ** 2
                    if top == 0:
                        self.check(rule, spot(across, along), "lost", None)
                    else:
                        word = "damped" if below < top else "kept" if below == top else "grows"
                        counts = (int(below < top), int(below == top), int(below > top))
                        self.check(rule, spot(across, along), word, counts)

    def test_real_numbers(self):
        self.check(EULER, spot(-1), "damped", (1, 0, 0))
        self.check(EULER, spot(-2), "kept", (0, 1, 0))
        self.check(EULER, spot(Fraction(-2 * HUGE - 1, HUGE)), "grows", (0, 0, 1))
        self.check(EULER, spot(Fraction(-2 * HUGE + 1, HUGE)), "damped", (1, 0, 0))
        self.check(TWIN, spot(0), "kept", (1, 1, 0))
        self.check(TWIN, spot(4), "kept", (1, 1, 0))
        self.check(TWIN, spot(5), "damped", (2, 0, 0))
        self.check(TWIN, spot(Fraction(3, 2)), "lost", None)
        self.check(LEAP, spot(0), "kept", (0, 2, 0))
        self.check(LEAP, spot(-1), "grows", (1, 0, 1))
        self.check(WILD, spot(0), "grows", (0, 1, 1))

    def test_the_imaginary_line(self):
        self.check(HALVES, spot(0, 7), "kept", (0, 1, 0))
        self.check(LEAP, spot(0, Fraction(1, 2)), "kept", (0, 2, 0))
        self.check(LEAP, spot(0, Fraction(HUGE, HUGE + 1)), "kept", (0, 2, 0))
        self.check(LEAP, spot(0, 1), "grows", (0, 2, 0))
        self.check(LEAP, spot(0, Fraction(HUGE + 1, HUGE)), "grows", (1, 0, 1))
        self.check(EULER, spot(0, Fraction(1, HUGE)), "grows", (0, 0, 1))
        self.check(BACK_EULER, spot(0, Fraction(1, HUGE)), "damped", (1, 0, 0))

    def test_other_points(self):
        self.check(EULER, spot(-1, Fraction(1, 2)), "damped", (1, 0, 0))
        self.check(EULER, spot(Fraction(-2, 5), Fraction(4, 5)), "kept", (0, 1, 0))
        self.check(EULER, spot(-1, 1), "kept", (0, 1, 0))
        self.check(BACK_EULER, spot(Fraction(1, 5), Fraction(3, 5)), "kept", (0, 1, 0))
        self.check(LEAP, spot(Fraction(-1, HUGE), Fraction(1, 2)), "grows", (1, 0, 1))

    def test_on_the_circle_twice(self):
        twice = rule_of(product_of((1, 0, 1), (1, 0, 1)), (0, 0, 0, 0, 1))
        self.check(twice, ORIGIN, "grows", (0, 4, 0))
        once = rule_of(product_of((1, 0, 1), (1, 0, 3)), (0, 0, 0, 0, 1))
        self.check(once, ORIGIN, "kept", (2, 2, 0))
        self.check(rule_of((1, 2, 1), (0, 0, 1)), ORIGIN, "grows", (0, 2, 0))
        self.check(rule_of((-1, 0, 1), (0, 0, 1)), ORIGIN, "kept", (0, 2, 0))

    def test_steps_that_are_lost(self):
        self.check(BACK_EULER, spot(1), "lost", None)
        self.check(BACK_EULER, spot(1, Fraction(1, HUGE)), "grows", (0, 0, 1))
        self.check(HALVES, spot(2), "lost", None)
        self.check(THREE, spot(Fraction(11, 6)), "lost", None)
        self.check(rule_of((3, 3), (1, 1)), spot(3), "lost", None)
        self.check(rule_of((0, 0, 3), (0, 0, 1)), spot(3), "lost", None)
        self.check(rule_of((3, 5, 3), (1, 2, 1)), spot(3), "lost", None)

    def test_second_polynomials_that_are_nought_or_short(self):
        still = rule_of((1, 2), (0, 0))
        for point in (ORIGIN, spot(-3), spot(7, 2)):
            self.check(still, point, "damped", (1, 0, 0))
        self.check(rule_of((2, 1), (0, 0)), spot(-1), "grows", (0, 0, 1))
        self.check(rule_of((0, 0, 1), (1, 0, 0)), spot(Fraction(1, 2), Fraction(1, 2)), "damped", (2, 0, 0))
        self.check(rule_of((0, 0, 1), (1, 0, 0)), spot(Fraction(3, 5), Fraction(4, 5)), "kept", (0, 2, 0))

    def test_against_roots_told_near(self):
        random = Random(17)
        tried = 0
        for rule in some_rules(150, (1, 2, 3, 4, 5)):
            point = spot(Fraction(random.randint(-9, 9), 3), Fraction(random.randint(-9, 9), 4))
            row = [python_of(a) - python_spot(point) * python_of(b) for a, b in zip(*rule)]
            if row[-1] != 0:
                lengths = [abs(root) for root in near_roots(row)]
                if all(abs(each - 1) > 1e-4 for each in lengths):
                    tried += 1
                    inside, outside = sum(each < 1 for each in lengths), sum(each > 1 for each in lengths)
                    self.check(rule, point, "grows" if outside else "damped", (inside, 0, outside))
        self.assertGreater(tried, 100)

    def test_a_root_on_the_circle_is_told_by_both_polynomials(self):
        turns = [(Fraction(1 - n * n, 1 + n * n), Fraction(2 * n, 1 + n * n)) for n in (Fraction(1, 3), 2, Fraction(-5, 4))]
        for rule in some_rules(40):
            for across, along in turns:
                above, below = [worth(each, spot(across, along)) for each in (first_of(rule), second_of(rule))]
                (x, y), (u, v) = [[python_of(each) for each in pair] for pair in (above, below)]
                if (u, v) != (0, 0):
                    size = u * u + v * v
                    point = spot((x * u + y * v) / size, (y * u - x * v) / size)
                    if point_word(rule, point) != "lost":
                        self.assertGreaterEqual(point_counts(rule, point)[1], 1)

    def test_great_numbers(self):
        great = rule_of((HUGE, HUGE + 2), (1, Fraction(1, HUGE)))
        self.assertEqual(point_word(great, ORIGIN), "damped")
        self.assertEqual(point_word(great, spot(HUGE * (HUGE + 2))), "lost")
        self.assertEqual(point_word(great, spot(Fraction(1, HUGE), 1)), "damped")
        self.assertEqual(point_word(great, spot(Fraction(1, HUGE), HUGE)), "grows")
        self.assertEqual(point_counts(great, spot(-HUGE ** 3, 5)), (0, 0, 1))


class FarWords(unittest.TestCase):

    def check(self, second, word):
        first = [5] * (len(second) - 1) + [3]
        for factor in (1, Fraction(-7, 2)):
            self.assertEqual(far_word(scaled(rule_of(first, second), factor)), word)
            self.assertEqual(far_word(rule=scaled(rule_of(first, second), factor)), word)

    def test_every_word(self):
        for second, word in (
            ((0, 0), "none"), ((0,) * 9, "none"), ((0, 1), "fades"), ((0,) * 8 + (-3,), "fades"), ((0, 0, Fraction(1, 9)), "fades"),
            ((1, 2), "damped"), ((0, 1, 2), "damped"), ((1, 0, 0, 2), "damped"), ((0, 0, 1, HUGE), "damped"),
            ((1, 1), "kept"), ((-1, 0, 1), "kept"), ((0, 1, 1), "kept"), ((1, 1, 1), "kept"), ((5, -6, 5), "kept"),
            ((1, 2, 1), "grows"), ((2, 1), "grows"), ((0, 2, 1), "grows"), ((1, 0), "grows"), ((0, 1, 0), "grows"),
            ((1, 2, 0), "grows"), ((1, 0, 0), "grows"), ((2, -5, 2), "grows"), ((1, 0, 2, 0, 1), "grows"),
        ):
            self.check(second, word)

    def test_the_word_does_not_hang_on_the_first_polynomial(self):
        for rule in some_rules(60):
            still = ((NIL,) * (len(rule[0]) - 1) + (ONE,), rule[1])
            self.assertEqual(far_word(rule), far_word(still))

    def test_far_points(self):
        far = 10 ** 12
        for rule in some_rules(60):
            word = far_word(rule)
            if word in ("damped", "fades"):
                for point in (spot(far), spot(-far), spot(0, far), spot(far, -far)):
                    self.assertEqual(point_word(rule, point), "damped")


class WrongInputs(WrongCase):

    def test_what_is_no_rule(self):
        for odd in ODD_RULES:
            self.check_raises(InvalidRule, odd, far_word, odd)
            self.check_raises(InvalidRule, odd, far_word, rule=odd)
            for function in (point_word, point_counts):
                self.check_raises(InvalidRule, odd, function, odd, ORIGIN)
                self.check_raises(InvalidRule, odd, function, point=ORIGIN, rule=odd)

    def test_what_is_no_point(self):
        for odd in ODD_POINTS:
            for function in (point_word, point_counts):
                self.check_raises(InvalidPoint, odd, function, EULER, odd)
                self.check_raises(InvalidPoint, odd, function, point=odd, rule=BACK_EULER)

    def test_the_order_of_the_checks(self):
        odd = [EULER]
        for function in (point_word, point_counts):
            self.check_raises(InvalidRule, odd, function, odd, None)
            self.check_raises(InvalidRule, odd, function, point=None, rule=odd)

    def test_a_lost_step_comes_last(self):
        self.check_bare(LostStep, point_counts, BACK_EULER, (ONE, NIL))
        self.check_bare(LostStep, point_counts, point=(TWO, NIL), rule=HALVES)
        self.check_raises(InvalidPoint, ONE, point_counts, BACK_EULER, ONE)


class Interface(unittest.TestCase):

    def test_names_of_the_parameters(self):
        told = {"point_word": ["rule", "point"], "point_counts": ["rule", "point"], "far_word": ["rule"]}
        for name, parameters in told.items():
            function = getattr(spots, name)
            self.assertEqual(list(inspect.signature(function).parameters), parameters)
            self.assertEqual(function.__module__, "legsteps.spots")

    def test_the_examples_of_the_document(self):
        self.assertEqual(
            [point_word(EULER, (ONE, NIL)), point_word(EULER, ((-2, 1), NIL)), point_word(EULER, ((-1, 1), HALF)),
             point_word(BACK_EULER, (ONE, NIL)), point_word(LEAP, (NIL, HALF)), point_word(LEAP, (NIL, ONE)),
             point_word(WILD, (NIL, NIL))],
            ["grows", "kept", "damped", "lost", "kept", "grows", "grows"],
        )
        self.assertEqual(
            [point_counts(WILD, (NIL, NIL)), point_counts(TWIN, ((-1, 1), NIL)), point_counts(LEAP, (NIL, ONE)),
             far_word(EULER), far_word(BACK_EULER), far_word(HALVES), far_word(TWIN)],
            [(0, 1, 1), (2, 0, 0), (0, 2, 0), "grows", "fades", "kept", "fades"],
        )
        with self.assertRaises(LostStep):
            point_counts(BACK_EULER, (ONE, NIL))


if __name__ == "__main__":
    unittest.main()
