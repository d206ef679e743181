"""Points 22 and 23: the real stretches, their ends, and what two rules damp alike."""

import inspect
import unittest
from fractions import Fraction
from random import Random

from legsteps import reals
from legsteps.bests import adams, backward, moulton
from legsteps.errors import InvalidNumber, InvalidRule
from legsteps.numbers import is_fraction
from legsteps.reals import are_damped_alike, damps_all, parting_real, stretches, undamped_below
from legsteps.spots import point_word
from samples import (
    BACK_EULER, EULER, HALVES, HUGE, LEAP, NIL, THREE, TOUCHING, TOUCHING_TWICE, TWIN, WILD, pair_of, product_of,
    python_of, rule_of, scaled, some_rules, times_both,
)
from wrongs import ODD_RULES, WrongCase, odd_numbers

# All but - 2 are damped; all; none.
ALL_BUT_ONE, EVERY, NO_NUMBER = rule_of((0, -2), (0, 1)), rule_of((1, 2), (0, 0)), rule_of((2, 1), (0, 0))
MANY = 10 ** 6


def damps(rule, number):
    return point_word(rule, (pair_of(number), NIL)) == "damped"


def told_by_hand(rule):
    """The stretches of a rule of one step: the damped q keep the product of two straight functions above 0."""
    (low, high), (early, late) = [[python_of(each) for each in row] for row in rule]
    rims = sorted({top / slope for top, slope in ((high - low, late - early), (high + low, late + early), (high, late)) if slope})
    if not rims:
        places = [Fraction(0)]
    else:
        places = [rims[0] - 1] + [(one + other) / 2 for one, other in zip(rims, rims[1:])] + [rims[-1] + 1]
    ends = [None] + rims + [None]
    return [(ends[at], ends[at + 1]) for at, place in enumerate(places)
            if abs(low - place * early) < abs(high - place * late)]


def near(end, many):
    return None if end is None else (end * many // 1, end * many == end * many // 1)


class Stretches(unittest.TestCase):

    def check(self, rule, *told, many=1):
        """Ends that are fractions, or pairs that are told."""
        made = tuple(tuple(near(each, many) if isinstance(each, (int, Fraction)) else each for each in ends) for ends in told)
        for each in (rule, scaled(rule, Fraction(-2, 7))):
            self.assertEqual(stretches(each, many), made)
            self.assertEqual(stretches(many=many, rule=each), made)

    def test_rules_of_one_step(self):
        random = Random(31)
        for _ in range(250):
            row = [Fraction(random.randint(-4, 4), random.randint(1, 3)) for _ in range(3)]
            rule = rule_of((row[0], random.choice((-2, 1, 3))), (row[1], row[2]))
            for many in (1, 12, 10 ** 12):
                told = tuple((near(low, many), near(high, many)) for low, high in told_by_hand(rule))
                self.assertEqual(stretches(rule, many), told, rule)

    def test_by_hand(self):
        self.check(EULER, (-2, 0))
        self.check(BACK_EULER, (None, 0), (2, None), many=10 ** 12)
        self.check(HALVES, (None, 0))
        self.check(TWIN, (None, 0), (4, None))
        self.check(adams(2), (-1, 0))
        self.check(adams(3), (Fraction(-6, 11), 0), many=1)
        self.check(adams(3), (Fraction(-6, 11), 0), many=11)
        self.check(adams(4), (Fraction(-3, 10), 0), many=10 ** 12)
        self.check(moulton(2), (-6, 0), many=7)
        self.check(moulton(3), (-3, 0))
        self.check(backward(3), (None, 0), (Fraction(20, 3), None), many=10 ** 12)
        self.check(backward(4), (None, 0), (Fraction(32, 3), None))
        self.check(rule_of((0, 0, -2), (0, 0, 1)), (None, -2), (-2, None))

    def test_ends_that_are_no_fractions(self):
        # (w^3 - w + 1 with w = 1 / z has a root on the circle for q = 1 - 2 cos t with cos t = 0, or its square 1 / 2.)
        rule = rule_of((1, 0, -1, 1), (0, 0, 0, 1))
        self.assertEqual(stretches(rule, 10), ((None, (-5, False)), ((24, False), None)))
        self.assertEqual(stretches(rule, 10 ** 12), ((None, (-414213562374, False)), ((2414213562373, False), None)))
        self.assertEqual(stretches(rule, 1), ((None, (-1, False)), ((2, False), None)))

    def test_many_1_and_the_greatest_one(self):
        small = Fraction(1, 10 ** 12)
        for shift in (0, small, -small, small / 3, -small / 3):
            rule = rule_of((0, 1 + shift), (0, 1))
            for many in (1, 10 ** 12):
                self.check(rule, (None, 1 + shift), (1 + shift, None), many=many)
        self.check(rule_of((0, HUGE), (0, 3)), (None, Fraction(HUGE, 3)), (Fraction(HUGE, 3), None), many=10 ** 12)
        self.check(rule_of((0, 1), (0, HUGE)), (None, Fraction(1, HUGE)), (Fraction(1, HUGE), None), many=10 ** 12)

    def test_no_stretch(self):
        for rule in (LEAP, WILD, rule_of((-1, 0, 1), (1, 4, 1)), NO_NUMBER, rule_of((1, 1), (0, 0)), rule_of((2, 1), (2, 1))):
            self.check(rule)

    def test_a_second_polynomial_that_is_nought(self):
        self.check(EVERY, (None, None))
        self.check(rule_of((0, 0, 0, 1), (0, 0, 0, 0)), (None, None))
        self.check(rule_of(product_of((1, 1), (1, 2)), (0, 0, 0)))
        self.check(rule_of((5, 1), (0, 0)))

    def test_a_fraction_times_the_other_polynomial(self):
        for factor in (1, -2, Fraction(1, 3)):
            for row in ((0, 1), (1, 2), (0, 0, 0, 5), (1, 0, 3), (0, 0, 0, 0, 0, 0, 0, 0, 1)):
                self.check(rule_of([factor * each for each in row], row), (None, factor), (factor, None))
            for row in ((1, 1), (2, 1), (1, 0, 1), (2, 5, 2), (1, 2, 1)):
                self.check(rule_of([factor * each for each in row], row))

    def test_common_roots(self):
        for rule in (EULER, BACK_EULER, TWIN, HALVES, ALL_BUT_ONE, EVERY):
            for factor in ((1, 1), (-1, 1), (1, 0, 1), (5, -6, 5), (2, 1), (-1, 1, 1), (3, 0, 1)):
                self.check(times_both(rule, factor))
            for factor in ((1, 2), (0, 1), (1, 0, 3), (1, 1, 2)):
                self.assertEqual(stretches(times_both(rule, factor), 60), stretches(rule, 60))

    def test_real_all_round_the_circle(self):
        for rule in (rule_of((1, 3, 1), (1, 1, 1)), rule_of((1, 0, 1), (1, 5, 1)), rule_of((-1, 0, 1), (-3, 0, 3)),
                     rule_of((1, 2, 3, 2, 1), (0, 0, 1, 0, 0))):
            self.check(rule)

    def test_the_same_from_both_ends(self):
        for first, second in (((-1, 0, 1), (1, 1, 1)), ((-1, 0, 1), (1, -1, 1)), ((-1, 1, -1, 1), (1, 1, 1, 1))):
            for each in (first, [-each for each in first]):
                found = stretches(rule_of(each, second), 10)
                for place in (-7, -1, Fraction(-1, 9), 0, Fraction(1, 9), 1, 7):
                    inside = any((low is None or Fraction(low[0], 10) < place) and (high is None or place < Fraction(high[0], 10))
                                 for low, high in found)
                    self.assertEqual(damps(rule_of(each, second), place), inside)
        self.check(rule_of((-1, 1), (1, 1)), (None, 0))
        self.check(rule_of((1, -1), (1, 1)), (0, None))

    def test_two_stretches_with_a_common_end(self):
        self.check(ALL_BUT_ONE, (None, -2), (-2, None), many=10)
        self.assertEqual(
            stretches(TOUCHING, 1000), ((None, (-4175, False)), ((-4175, False), (0, True)), ((170500, True), None)),
        )
        self.assertEqual(
            stretches(TOUCHING_TWICE, 1000),
            ((None, (-45539, False)), ((-45539, False), (-4875, True)), ((-4875, True), (0, True)), ((1535250, True), None)),
        )
        self.assertEqual(stretches(TOUCHING, 1), ((None, (-5, False)), ((-5, False), (0, True)), ((170, False), None)))

    def test_drawn_rules(self):
        random = Random(32)
        seen = {}
        for rule in some_rules(250, range(1, 9)):
            found = stretches(rule, MANY)
            seen[len(found)] = True
            places = [Fraction(random.randint(-60, 60), random.randint(1, 9)) for _ in range(4)]
            rims = [each for ends in found for each in ends if each is not None]
            places += [Fraction(number + step, MANY) for number, _ in rims for step in (-1, 0, 1, 2)]
            for place in places:
                if not any(not is_just and 0 < place * MANY - number < 1 for number, is_just in rims):
                    told = any((low is None or place * MANY > low[0]) and
                               (high is None or place * MANY < high[0] + (not high[1])) for low, high in found)
                    self.assertEqual(damps(rule, place), told, (rule, place))
        self.assertEqual(sorted(seen), [0, 1, 2])


class Below(unittest.TestCase):

    def check(self, rule, is_all):
        found = undamped_below(rule)
        self.assertIs(damps_all(rule), is_all)
        self.assertIs(damps_all(rule=rule), is_all)
        self.assertEqual(undamped_below(rule=rule), found)
        if found is not None:
            self.assertTrue(is_fraction(found))
            self.assertLess(found[0], 0)
            self.assertIs(damps(rule, python_of(found)), False)
            self.assertIs(is_all, False)
        return found

    def test_rules_that_damp_all(self):
        for rule in (BACK_EULER, HALVES, TWIN, EVERY, backward(3), backward(6), rule_of((0, 1), (0, 1)), rule_of((0, 1), (0, HUGE))):
            self.assertIsNone(self.check(rule, True))

    def test_rules_that_do_not(self):
        for rule in (EULER, LEAP, WILD, NO_NUMBER, backward(7), adams(3), adams(8), rule_of((-1, 0, 1), (1, 4, 1))):
            self.assertIsNotNone(self.check(rule, False))

    def test_just_one_fraction(self):
        self.assertEqual(self.check(ALL_BUT_ONE, False), (-2, 1))
        self.assertEqual(self.check(rule_of((0, -1), (0, HUGE)), False), (-1, HUGE))
        self.assertEqual(self.check(rule_of((0, -HUGE), (0, 7)), False), (-HUGE, 7))
        self.assertIsNone(self.check(rule_of((0, 0, 3), (0, 0, 7)), True))

    def test_just_numbers_that_are_no_fractions(self):
        self.assertIsNone(self.check(TOUCHING, False))
        self.assertIsNone(self.check(scaled(TOUCHING, Fraction(-1, 9)), False))
        # Of two such numbers just the greater one is a fraction.
        self.assertEqual(self.check(TOUCHING_TWICE, False), (-39, 8))
        self.assertEqual(self.check(scaled(TOUCHING_TWICE, Fraction(-1, 9)), False), (-39, 8))
        shifted = rule_of(*[[python_of(a) - 5 * python_of(b) for a, b in zip(*TOUCHING)], [python_of(b) for b in TOUCHING[1]]])
        self.assertIsNotNone(self.check(shifted, False))

    def test_a_stretch_with_an_end_just_below_0(self):
        small = Fraction(1, HUGE)
        for shift, is_all in ((-small, False), (0, True), (small, True)):
            rule = rule_of([python_of(a) + shift * python_of(b) for a, b in zip(*BACK_EULER)], (0, 1))
            found = self.check(rule, is_all)
            if not is_all:
                self.assertTrue(-small <= python_of(found) < 0)

    def test_drawn_rules(self):
        told = set()
        for rule in some_rules(250, range(1, 9)):
            is_all = any(low is None and (high is None or high[0] >= 0) for low, high in stretches(rule, 1))
            self.check(rule, is_all)
            told.add(is_all)
        self.assertEqual(told, {True, False})


class Alike(unittest.TestCase):

    def check(self, rule, other, is_alike, has_fraction=True):
        for first, second in ((rule, other), (other, rule)):
            found = parting_real(first, second)
            self.assertIs(are_damped_alike(first, second), is_alike)
            self.assertIs(are_damped_alike(other=second, rule=first), is_alike)
            self.assertEqual(parting_real(other=second, rule=first), found)
            if is_alike or not has_fraction:
                self.assertIsNone(found)
            else:
                self.assertTrue(is_fraction(found))
                self.assertNotEqual(damps(rule, python_of(found)), damps(other, python_of(found)))

    def test_rules_that_are_damped_alike(self):
        for rule in (EULER, BACK_EULER, HALVES, TWIN, LEAP, THREE, ALL_BUT_ONE, EVERY, NO_NUMBER, TOUCHING):
            self.check(rule, rule, True)
            self.check(rule, scaled(rule, Fraction(-3, 5)), True)
        for rule in (EULER, BACK_EULER, HALVES, TWIN, ALL_BUT_ONE, EVERY):
            self.check(rule, times_both(rule, (1, 3)), True)
            self.check(rule, times_both(rule, (0, 1), (1, 0, 2)), True)
        self.check(LEAP, WILD, True)
        self.check(LEAP, rule_of((-3, 1), (0, 0)), True)
        self.check(EVERY, rule_of((0, 0, 0, 5), (0, 0, 0, 0)), True)
        self.check(ALL_BUT_ONE, rule_of((0, 0, 0, -4), (0, 0, 0, 2)), True)
        self.check(ALL_BUT_ONE, rule_of((1, 0, -6), (Fraction(-1, 2), 0, 3)), True)

    def test_rules_that_are_not(self):
        for rule, other in (
            (BACK_EULER, TWIN), (EULER, BACK_EULER), (EULER, LEAP), (HALVES, BACK_EULER), (EVERY, NO_NUMBER), (EVERY, HALVES),
            (EULER, times_both(EULER, (1, 1))), (adams(3), adams(4)), (backward(3), backward(4)), (TWIN, THREE),
            (TOUCHING, EVERY), (TOUCHING, backward(2)), (moulton(2), rule_of((1, 4), (0, 1))),
        ):
            self.check(rule, other, False)

    def test_parted_by_one_number(self):
        self.check(ALL_BUT_ONE, EVERY, False)
        self.assertEqual(parting_real(ALL_BUT_ONE, EVERY), (-2, 1))
        self.check(ALL_BUT_ONE, rule_of((0, 0, 3), (0, 0, 1)), False)
        # The stretches of the other one, but for the number that is no fraction between two of them.
        other = rule_of((Fraction(341, 4), Fraction(341, 4)), (0, 1))
        self.assertEqual(stretches(other, 1000), ((None, (0, True)), ((170500, True), None)))
        self.check(TOUCHING, other, False, has_fraction=False)
        other = rule_of((Fraction(6141, 8), Fraction(6141, 8)), (0, 1))
        self.assertEqual(stretches(other, 1000), ((None, (0, True)), ((1535250, True), None)))
        self.check(TOUCHING_TWICE, other, False)
        self.assertEqual(parting_real(TOUCHING_TWICE, other), (-39, 8))

    def test_ends_next_to_one_another(self):
        small = Fraction(1, 10 ** 60)
        for shift in (small, -small):
            moved = rule_of([python_of(a) + shift * python_of(b) for a, b in zip(*TWIN)], (0, 0, 1))
            self.check(TWIN, moved, False)

    def test_drawn_rules(self):
        rules = some_rules(24)
        for at, rule in enumerate(rules):
            for other in rules[at:]:
                self.check(rule, other, stretches(rule, 10 ** 9) == stretches(other, 10 ** 9))


class WrongInputs(WrongCase):

    def test_what_is_no_rule(self):
        for odd in ODD_RULES:
            self.check_raises(InvalidRule, odd, stretches, odd, 1)
            self.check_raises(InvalidRule, odd, stretches, many=None, rule=odd)
            for function in (damps_all, undamped_below):
                self.check_raises(InvalidRule, odd, function, odd)
                self.check_raises(InvalidRule, odd, function, rule=odd)
            for function in (are_damped_alike, parting_real):
                self.check_raises(InvalidRule, odd, function, odd, EULER)
                self.check_raises(InvalidRule, odd, function, EULER, odd)
                self.check_raises(InvalidRule, odd, function, other=odd, rule=LEAP)

    def test_what_is_no_number(self):
        for odd in odd_numbers(1, 10 ** 12):
            self.check_raises(InvalidNumber, odd, stretches, EULER, odd)
            self.check_raises(InvalidNumber, odd, stretches, many=odd, rule=LEAP)

    def test_the_first_argument_is_checked_first(self):
        first, second = [EULER], [LEAP]
        self.check_raises(InvalidRule, first, stretches, first, 0)
        for function in (are_damped_alike, parting_real):
            self.check_raises(InvalidRule, first, function, first, second)
            self.check_raises(InvalidRule, first, function, other=second, rule=first)


class Interface(unittest.TestCase):

    def test_names_of_the_parameters(self):
        told = {
            "stretches": ["rule", "many"], "damps_all": ["rule"], "undamped_below": ["rule"],
            "are_damped_alike": ["rule", "other"], "parting_real": ["rule", "other"],
        }
        for name, parameters in told.items():
            function = getattr(reals, name)
            self.assertEqual(list(inspect.signature(function).parameters), parameters)
            self.assertEqual(function.__module__, "legsteps.reals")

    def test_the_examples_of_the_document(self):
        self.assertEqual(
            [stretches(EULER, 10), stretches(BACK_EULER, 10), stretches(HALVES, 3), stretches(LEAP, 3), stretches(TWIN, 1)],
            [(((-20, True), (0, True)),), ((None, (0, True)), ((20, True), None)), ((None, (0, True)),), (),
             ((None, (0, True)), ((4, True), None))],
        )
        self.assertEqual(
            [damps_all(EULER), damps_all(TWIN), undamped_below(TWIN), are_damped_alike(BACK_EULER, TWIN),
             are_damped_alike(EULER, EULER), parting_real(EULER, EULER)],
            [False, True, None, False, True, None],
        )


if __name__ == "__main__":
    unittest.main()
