"""Points 28 and 29: what plain steps keep, up to which ratio a rule keeps it, and plays that it raises."""

import inspect
import unittest
from fractions import Fraction
from random import Random

from legsteps import plains
from legsteps.bests import adams, backward, moulton
from legsteps.errors import InvalidRatio, InvalidRule
from legsteps.likes import mixed, multiplied
from legsteps.numbers import is_fraction
from legsteps.plains import greatest_ratio, is_raising, keeps, raising_play
from samples import (
    BACK_EULER, EULER, FLAT, HALF, HALVES, HUGE, LEAP, NIL, ODD_PAIRS, ODD_ROWS, ODD_VALUES, ONE, SLOW, THREE, TWIN, TWO,
    WILD, pair_of, python_of, rule_of, scaled, some_rules,
)
from wrongs import ODD_ABOVE_0, ODD_RULES, WrongCase

# It keeps up to 1 / 2 (Shu).
SHU = rule_of((Fraction(-1, 4), 0, Fraction(-3, 4), 1), (0, 0, Fraction(3, 2), 0))
# It keeps up to 2 / 3, told by the number of the middle.
MEAN = rule_of((Fraction(-1, 6), Fraction(-1, 3), Fraction(-1, 2), 1), (Fraction(1, 5), Fraction(1, 2), Fraction(1, 7), 3))
RATIOS = (Fraction(1), Fraction(1, 2), Fraction(2), Fraction(7, 3), Fraction(1, HUGE), Fraction(HUGE))


def parts_of(rule):
    """alpha_j below k, and beta_j up to k."""
    lead = python_of(rule[0][-1])
    return [-python_of(each) / lead for each in rule[0][:-1]], [python_of(each) / lead for each in rule[1]]


def keeps_by_hand(rule, ratio):
    alphas, betas = parts_of(rule)
    return sum(alphas) == 1 and min(betas) >= 0 and all(ratio * b <= a for a, b in zip(alphas, betas))


def is_play_by_hand(rule, ratio, play):
    """The words of point 29, with Python's fractions."""
    middle, values, slopes = python_of(play[0]), [python_of(each) for each in play[1]], [python_of(each) for each in play[2]]
    first, second = [[python_of(each) for each in row] for row in rule]
    told = sum(a * y for a, y in zip(first, values)) == ratio * sum(b * f for b, f in zip(second, slopes))
    steps = all(abs(y + f - middle) <= abs(y - middle) for y, f in zip(values, slopes))
    below = all(abs(y - middle) <= 1 for y in values[:-1])
    return told and steps and below and abs(values[-1] - middle) > 1


class PlainCase(WrongCase):

    def check(self, rule, ratio):
        """Whether it keeps, with all that hangs on it."""
        told = keeps_by_hand(rule, ratio)
        ratio = pair_of(ratio)
        self.assertIs(keeps(rule, ratio), told, (rule, ratio))
        self.assertIs(keeps(ratio=ratio, rule=rule), told)
        play = raising_play(rule, ratio)
        self.assertEqual(raising_play(ratio=ratio, rule=rule), play)
        if told:
            self.assertIsNone(play)
        else:
            self.assertIsInstance(play, tuple)
            self.assertEqual([len(play), len(play[1]), len(play[2])], [3, len(rule[0]), len(rule[0])])
            self.assertTrue(all(is_fraction(each) for each in (play[0],) + play[1] + play[2]))
            self.assertTrue(is_play_by_hand(rule, python_of(ratio), play), (rule, ratio, play))
            self.assertIs(is_raising(rule, ratio, play), True)
            self.assertIs(is_raising(value=play, ratio=ratio, rule=rule), True)
        return told

    def check_greatest(self, rule, told):
        """The greatest ratio, and what is so at it, just below and just above."""
        found = greatest_ratio(rule)
        self.assertEqual(greatest_ratio(rule=rule), found)
        if told is None or told == "endless":
            self.assertEqual(found, told)
            for ratio in RATIOS:
                self.assertIs(self.check(rule, ratio), told == "endless")
        else:
            self.assertEqual(found, pair_of(told))
            self.assertIs(self.check(rule, told), True)
            for small in (Fraction(1, 1000), Fraction(1, HUGE)):
                self.assertIs(self.check(rule, told * (1 - small)), True)
                self.assertIs(self.check(rule, told * (1 + small)), False)


class Greatest(PlainCase):

    def check_multiples(self, rule, told):
        for each in (rule, scaled(rule, -1), scaled(rule, Fraction(7, 3))):
            self.check_greatest(each, told)

    def test_up_to_a_greatest_one(self):
        self.check_multiples(EULER, 1)
        self.check_multiples(HALVES, 2)
        self.check_multiples(SLOW, Fraction(1, 2))
        self.check_multiples(SHU, Fraction(1, 2))
        self.check_multiples(MEAN, Fraction(2, 3))
        self.check_multiples(mixed(EULER, BACK_EULER, (1, 3)), 3)
        self.check_multiples(rule_of((-1, 1), (HUGE, 0)), Fraction(1, HUGE))
        self.check_multiples(rule_of((-1, 1), (Fraction(1, HUGE), HUGE)), HUGE)

    def test_at_all(self):
        self.check_multiples(BACK_EULER, "endless")
        self.check_multiples(rule_of((-1, 1), (0, 0)), "endless")
        self.check_multiples(rule_of((0, -1, 1), (0, 0, Fraction(1, HUGE))), "endless")
        self.check_multiples(rule_of((Fraction(-1, 2), Fraction(-1, 2), 1), (0, 0, 5)), "endless")

    def test_at_none(self):
        for rule in (LEAP, TWIN, WILD, FLAT, THREE, adams(2), adams(3), moulton(2), backward(2), backward(5)):
            self.check_multiples(rule, None)
        # The sum is not 1; the last b is below 0; another one is; alpha is 0 or below 0 where beta is above 0.
        self.check_multiples(rule_of((-1, 2), (0, 1)), None)
        self.check_multiples(rule_of((-2, 1), (0, 1)), None)
        self.check_multiples(rule_of((-1, 1), (0, -1)), None)
        self.check_multiples(rule_of((-1, 1), (Fraction(1, 3), Fraction(-1, HUGE))), None)
        self.check_multiples(rule_of((-1, 1), (Fraction(-1, HUGE), 0)), None)
        self.check_multiples(rule_of((0, -1, 1), (1, 0, 0)), None)
        self.check_multiples(rule_of((0, -1, 1), (Fraction(1, HUGE), 1, 1)), None)
        self.check_multiples(rule_of((1, -2, 1), (0, 0, 0)), None)
        self.check_multiples(rule_of((1, -2, 1), (1, 1, 1)), None)
        self.check_multiples(rule_of((-2, 1, 1), (0, 0, 0)), None)
        self.check_multiples(rule_of((-2, 1, 1), (1, 0, 1)), None)
        self.check_multiples(rule_of((Fraction(1, HUGE), -1 - Fraction(1, HUGE), 1), (0, 1, 1)), None)

    def test_where_the_least_stands_at_each_place(self):
        for steps in range(1, 9):
            for place in range(steps):
                first = [Fraction(-1, steps)] * steps + [1]
                second = [Fraction(1, steps)] * (steps + 1)
                second[place] = Fraction(3, 2 * steps)
                self.check_greatest(rule_of(first, second), Fraction(2, 3))
                second[place] = 0
                self.check_greatest(rule_of(first, second), 1 if steps > 1 else "endless")

    def test_drawn_rules(self):
        random = Random(91)
        for _ in range(120):
            steps = random.randint(1, 8)
            shares = [random.randint(0, 4) for _ in range(steps)]
            shares[random.randrange(steps)] += 1
            alphas = [Fraction(each, sum(shares)) for each in shares]
            betas = [random.choice((0, 0, 1, Fraction(1, 3), Fraction(5, 2))) if alpha or random.random() < 0.1 else 0 for alpha in alphas]
            limits = [alpha / beta for alpha, beta in zip(alphas, betas) if beta]
            told = min(limits) or None if limits else "endless"
            rule = rule_of([-each for each in alphas] + [1], betas + [random.choice((0, 0, 1, Fraction(2, 7)))])
            self.check_greatest(scaled(rule, random.choice((1, -3, Fraction(2, 5)))), told)


class Plays(PlainCase):

    def test_rules_bent_at_each_place(self):
        seen = {}
        for rule in (EULER, BACK_EULER, HALVES, SHU, MEAN):
            for which in (0, 1):
                for at in range(len(rule[0])):
                    for bent in (Fraction(1, 5), Fraction(-1, 5), Fraction(1, HUGE), Fraction(-1, HUGE), -4, 4):
                        rows = [[python_of(each) for each in row] for row in rule]
                        rows[which][at] += bent
                        if rows[0][-1] != 0:
                            for ratio in (Fraction(1, 2), Fraction(2, 3), 1, 2, Fraction(1, HUGE)):
                                seen[self.check(rule_of(*rows), Fraction(ratio))] = True
        self.assertEqual(len(seen), 2)

    def test_two_numbers_bent_so_that_the_sum_stays(self):
        for rule in (SHU, MEAN, HALVES):
            for at in range(len(rule[0]) - 1):
                for to in range(len(rule[0]) - 1):
                    for bent in (Fraction(1, 5), 2, Fraction(1, HUGE)):
                        rows = [[python_of(each) for each in row] for row in rule]
                        rows[0][at] += bent
                        rows[0][to] -= bent
                        for ratio in (Fraction(1, 2), 1, 3):
                            self.check(rule_of(*rows), Fraction(ratio))

    def test_drawn_rules(self):
        for rule in some_rules(200, range(1, 9)):
            for ratio in (Fraction(1), Fraction(1, 9), Fraction(13, 2)):
                self.check(rule, ratio)

    def test_great_numbers(self):
        for rule in (rule_of((-HUGE, HUGE), (1, 1)), rule_of((-HUGE, HUGE + 1), (1, 1)), rule_of((1, HUGE), (HUGE ** 2, -7)),
                     rule_of((Fraction(-1, HUGE), 1), (HUGE, 1)), rule_of((-1, 1), (1, -HUGE)), rule_of((-1, 1), (-HUGE, 1))):
            for ratio in RATIOS:
                self.check(rule, ratio)

    def test_a_play_is_passed_on_in_its_own_numbers(self):
        grown = raising_play(rule_of((-1, 1 + Fraction(1, HUGE)), (HUGE, 0)), (1, HUGE))
        self.assertIs(is_raising(EULER, ONE, grown), False)
        self.assertIs(is_raising(multiplied(EULER, (ONE, ONE)), ONE, grown), False)

    def test_what_keeps_is_raised_by_no_play(self):
        random = Random(92)
        for rule, ratio in ((EULER, ONE), (BACK_EULER, (9, 1)), (HALVES, TWO), (SHU, HALF), (MEAN, (2, 3))):
            alphas, betas = parts_of(rule)
            steps = len(alphas)
            for _ in range(60):
                middle = Fraction(random.randint(-3, 3), 2)
                values = [middle + Fraction(random.randint(-4, 4), 4) for _ in range(steps)]
                moved = [middle + (y - middle) * random.choice((-1, 0, 1)) for y in values]
                told = sum(a * y + python_of(ratio) * b * (u - y) for a, b, y, u in zip(alphas, betas, values, moved))
                # The last value may move by a part of what parts it from the middle, up to twice that.
                part = random.choice((0, -1, -2))
                weight = python_of(ratio) * betas[-1] * part
                last = (told - weight * middle) / (1 - weight)
                slopes = [u - y for y, u in zip(values, moved)] + [part * (last - middle)]
                play = (pair_of(middle), tuple(map(pair_of, values + [last])), tuple(map(pair_of, slopes)))
                first, second = [[python_of(each) for each in row] for row in rule]
                self.assertEqual(sum(a * y for a, y in zip(first, values + [last])),
                                 python_of(ratio) * sum(b * f for b, f in zip(second, slopes)))
                self.assertLessEqual(abs(last - middle), 1)
                self.assertIs(is_raising(rule, ratio, play), False)


class Raising(PlainCase):

    PLAY = (NIL, (ONE, (-3, 1)), ((-2, 1), NIL))

    def test_the_play_of_the_document(self):
        self.assertIs(is_raising(EULER, TWO, self.PLAY), True)
        self.assertIs(is_raising(EULER, ONE, self.PLAY), False)
        self.assertIs(is_raising(scaled(EULER, -5), TWO, self.PLAY), True)
        self.assertIs(is_raising(EULER, TWO, ((5, 1), ((6, 1), TWO), ((-2, 1), NIL))), True)

    def test_each_number_of_a_play_spoilt(self):
        middle, values, slopes = self.PLAY
        for small in (Fraction(1, HUGE), Fraction(-1, HUGE), Fraction(1, 2), Fraction(-9)):
            for play in (
                (pair_of(small), values, slopes), (middle, (pair_of(1 + small), values[1]), slopes),
                (middle, (ONE, pair_of(-3 + small)), slopes), (middle, values, (pair_of(-2 + small), NIL)),
            ):
                self.assertIs(is_raising(EULER, TWO, play), False)
        # The last slope is free, but for its size.
        for last, told in ((NIL, True), (ONE, True), ((6, 1), True), ((-1, HUGE), False), ((6 * HUGE + 1, HUGE), False)):
            self.assertIs(is_raising(EULER, TWO, (middle, values, (slopes[0], last))), told)

    def test_the_bounds(self):
        # By BACK_EULER, bent: y_1 = y_0 - h f_1, with f_1 from - 2 y_1 to 0.
        bent = rule_of((-1, 1), (0, -1))
        self.assertIs(is_raising(bent, ONE, (NIL, (ONE, TWO), (NIL, (-1, 1)))), True)
        self.assertIs(is_raising(bent, ONE, (NIL, (HALF, ONE), (NIL, (-1, 2)))), False)
        self.assertIs(is_raising(bent, ONE, (NIL, (HALF, (HUGE + 1, HUGE)), (NIL, pair_of(Fraction(1, 2) - Fraction(HUGE + 1, HUGE))))), True)
        self.assertIs(is_raising(bent, ONE, (NIL, ((HUGE + 1, HUGE), TWO), (NIL, pair_of(Fraction(HUGE + 1, HUGE) - 2)))), False)
        self.assertIs(is_raising(bent, ONE, (NIL, ((-1, 1), ONE), (NIL, (-2, 1)))), False)
        self.assertIs(is_raising(bent, ONE, (NIL, ((-1, 1), (3, 2)), (NIL, (-5, 2)))), True)
        self.assertIs(is_raising(bent, ONE, (NIL, ((-1, 1), (3, 2)), (NIL, (-3, 1)))), False)
        # The slope of an old value, for which b is 0, has to keep its bound, too.
        self.assertIs(is_raising(bent, ONE, (NIL, (ONE, TWO), ((-2, 1), (-1, 1)))), True)
        self.assertIs(is_raising(bent, ONE, (NIL, (ONE, TWO), ((-2 * HUGE - 1, HUGE), (-1, 1)))), False)
        self.assertIs(is_raising(bent, ONE, (NIL, (ONE, TWO), ((1, HUGE), (-1, 1)))), False)

    def test_values_of_any_sort(self):
        middle, values, slopes = self.PLAY
        odd = ODD_VALUES + ODD_PAIRS + ODD_ROWS
        for each in odd:
            for value in (each, (each, values, slopes), (middle, each, slopes), (middle, values, each),
                          (middle, (each, values[1]), slopes), (middle, (ONE, each), slopes), (middle, values, (slopes[0], each))):
                self.assertIs(is_raising(EULER, TWO, value), False)
                self.assertIs(is_raising(value=value, ratio=TWO, rule=EULER), False)
        for value in (list(self.PLAY), (middle, list(values), slopes), (middle, values, list(slopes)), self.PLAY + (NIL,), self.PLAY[:2],
                      (middle, values + (NIL,), slopes), (middle, values + slopes[:1], slopes[1:] + (NIL,)), (middle, values, slopes + (NIL,)), (middle, values + (NIL,), slopes + (NIL,)),
                      (middle, values[:1], slopes[:1]), (middle, (), ()), ((0, 2), values, slopes), (middle, ((2, 2), values[1]), slopes),
                      (middle, (ONE, (-6, 2)), slopes), (middle, values, ((-4, 2), NIL)), (middle, values, ((-2, 1), (0, 3)))):
            self.assertIs(is_raising(EULER, TWO, value), False)

    def test_against_the_words(self):
        random = Random(93)
        seen = {True: 0, False: 0}
        for rule in some_rules(60, (1, 2)) + [EULER, HALVES, BACK_EULER]:
            for ratio in (Fraction(1), Fraction(3)):
                play = raising_play(rule, pair_of(ratio))
                if play is not None:
                    for _ in range(12):
                        rows = [[play[0]], list(play[1]), list(play[2])]
                        row = random.choice(rows)
                        at = random.randrange(len(row))
                        row[at] = pair_of(python_of(row[at]) + random.choice((-1, Fraction(1, 4), 1, 0)))
                        value = (rows[0][0], tuple(rows[1]), tuple(rows[2]))
                        told = is_play_by_hand(rule, ratio, value)
                        seen[told] += 1
                        self.assertIs(is_raising(rule, pair_of(ratio), value), told)
        self.assertTrue(min(seen.values()) > 100)


class WrongInputs(WrongCase):

    def test_what_is_no_rule(self):
        self.check_odd(InvalidRule, ODD_RULES, greatest_ratio, {"rule": EULER}, "rule")
        for function in (keeps, raising_play):
            self.check_odd(InvalidRule, ODD_RULES, function, {"rule": EULER, "ratio": ONE}, "rule")
        self.check_odd(InvalidRule, ODD_RULES, is_raising, {"rule": EULER, "ratio": ONE, "value": None}, "rule")

    def test_what_is_no_ratio(self):
        for function in (keeps, raising_play):
            self.check_odd(InvalidRatio, ODD_ABOVE_0, function, {"rule": EULER, "ratio": ONE}, "ratio")
        self.check_odd(InvalidRatio, ODD_ABOVE_0, is_raising, {"rule": EULER, "ratio": ONE, "value": Raising.PLAY}, "ratio")

    def test_the_order_of_the_checks(self):
        good, bad = {"rule": EULER, "ratio": ONE}, {"rule": ([], InvalidRule, None), "ratio": (NIL, InvalidRatio, None)}
        for function in (keeps, raising_play):
            self.check_order(function, good, bad)
        self.check_raises(InvalidRule, None, is_raising, None, None, None)
        self.check_raises(InvalidRatio, NIL, is_raising, EULER, NIL, None)


class Interface(unittest.TestCase):

    def test_names_of_the_parameters(self):
        told = {
            "keeps": ["rule", "ratio"], "greatest_ratio": ["rule"], "raising_play": ["rule", "ratio"],
            "is_raising": ["rule", "ratio", "value"],
        }
        for name, parameters in told.items():
            function = getattr(plains, name)
            self.assertEqual(list(inspect.signature(function).parameters), parameters)
            self.assertEqual(function.__module__, "legsteps.plains")

    def test_the_examples_of_the_document(self):
        self.assertEqual(
            [greatest_ratio(EULER), greatest_ratio(BACK_EULER), greatest_ratio(HALVES), greatest_ratio(LEAP), keeps(EULER, ONE),
             keeps(EULER, TWO), raising_play(EULER, ONE)],
            [(1, 1), "endless", (2, 1), None, True, False, None],
        )
        self.assertEqual(
            [is_raising(EULER, TWO, (NIL, (ONE, (-3, 1)), ((-2, 1), NIL))), is_raising(EULER, ONE, (NIL, (ONE, (-3, 1)), ((-2, 1), NIL)))],
            [True, False],
        )


if __name__ == "__main__":
    unittest.main()
