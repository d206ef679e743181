"""Points 30 to 32: the polynomial of a pair, its word, its order and its real stretches."""

import inspect
import unittest
from fractions import Fraction
from math import floor
from random import Random

from legsteps import pairs
from legsteps.bests import adams, backward, moulton
from legsteps.errors import (
    InvalidNumber, InvalidPoint, InvalidRule, NotExplicit, TooManySteps, UnlikeSteps,
)
from legsteps.likes import multiplied
from legsteps.numbers import is_point
from legsteps.pairs import pair_counts, pair_order, pair_polynomial, pair_stretches, pair_word
from legsteps.rules import order_of
from legsteps.spots import point_counts, point_word
from samples import (
    BACK_EULER, EULER, FLAT, HALVES, HUGE, LEAP, NIL, ONE, SLOW, TWIN, WILD, near_roots, pair_of, product_of, python_of,
    rule_of, scaled, some_rules,
)
from wrongs import ODD_POINTS, ODD_RULES, ORIGIN, WrongCase, odd_numbers

MILLION = 10 ** 6
# The polynomial of both pairs is z, whatever q, and z - 2.
STILL, GROWN = rule_of((0, 1), (0, 0)), rule_of((-2, 1), (0, 0))


def some_pairs(many, steps=(1, 2, 3, 4), seed=11):
    """So many pairs, the same ones at each call."""
    found = []
    for at in range(many):
        length = (steps[at % len(steps)],)
        guess, correction = some_rules(2, length, greatest=3, seed=seed + at)
        found.append(((guess[0], guess[1][:-1] + (NIL,)), correction))
    return found


def times(one, other):
    """The product of two complex numbers, pairs of Python's fractions."""
    return (one[0] * other[0] - one[1] * other[1], one[0] * other[1] + one[1] * other[0])


def told_by(rule, q, values, last):
    """What the rule tells as y_k for y' = q y, from the values before it and the slope q * last."""
    first, second = [[python_of(each) for each in row] for row in rule]
    total = times(q, (second[-1] * last[0], second[-1] * last[1]))
    for a, b, value in zip(first, second, values):
        slope = times(q, value)
        total = (total[0] + b * slope[0] - a * value[0], total[1] + b * slope[1] - a * value[1])
    return (total[0] / first[-1], total[1] / first[-1])


def step_of(rule, other, corrections, q, values):
    """A step of the pair, taken as point 30 tells."""
    found = told_by(rule, q, values, (Fraction(0), Fraction(0)))
    for _ in range(corrections):
        found = told_by(other, q, values, found)
    return found


def spot(across, along=0):
    return (pair_of(across), pair_of(along))


def polynomial_by_hand(rule, other, corrections, point):
    """From the steps for old values of which one is 1 and all others are 0."""
    steps = len(rule[0]) - 1
    q = (python_of(point[0]), python_of(point[1]))
    found = []
    for place in range(steps):
        values = [(Fraction(int(at == place)), Fraction(0)) for at in range(steps)]
        real, turn = step_of(rule, other, corrections, q, values)
        found.append(spot(-real, -turn))
    return tuple(found) + (spot(1),)


def as_complex(point):
    return complex(python_of(point[0]), python_of(point[1]))


class PairCase(WrongCase):

    def check_at(self, rule, other, corrections, point):
        """The polynomial, the counts and the word, as they hang together; the word is returned."""
        named = {"point": point, "corrections": corrections, "other": other, "rule": rule}
        found = pair_polynomial(rule, other, corrections, point)
        self.assertEqual(found, polynomial_by_hand(rule, other, corrections, point))
        self.assertTrue(all(is_point(each) for each in found))
        self.assertEqual(pair_polynomial(**named), found)
        counts = pair_counts(rule, other, corrections, point)
        self.assertEqual(sum(counts), len(rule[0]) - 1)
        self.assertEqual(pair_counts(**named), counts)
        word = pair_word(rule, other, corrections, point)
        self.assertEqual(pair_word(**named), word)
        if counts[1] == 0:
            self.assertEqual(word, "damped" if counts[2] == 0 else "grows")
        else:
            self.assertIn(word, ("kept", "grows") if counts[2] == 0 else ("grows",))
        return word


class Polynomials(PairCase):

    def test_by_hand(self):
        # 1 + q + q q / 2 for one correction, and so on: each correction brings one more power.
        for q in (Fraction(-1), Fraction(1, 3), Fraction(-5, 2)):
            told = 1 + q
            for corrections in range(1, 7):
                told = 1 + q / 2 + q / 2 * told
                self.assertEqual(pair_polynomial(EULER, HALVES, corrections, spot(q)), (spot(-told), spot(1)))
        self.assertEqual(pair_polynomial(EULER, HALVES, 1, spot(0, 1)), (spot(Fraction(-1, 2), -1), spot(1)))
        self.assertEqual(pair_polynomial(EULER, BACK_EULER, 2, spot(-1)), (spot(0), spot(1)))

    def test_against_a_step_taken_itself(self):
        random = Random(71)
        for rule, other in some_pairs(48, range(1, 9)):
            for corrections in range(1, 7):
                across = Fraction(random.randint(-9, 9), random.randint(1, 4))
                self.check_at(rule, other, corrections, spot(across, random.choice((0, 0, 1, Fraction(-2, 3)))))

    def test_named_rules(self):
        for steps in range(1, 9):
            for other in (moulton(steps), backward(steps), adams(steps)):
                for corrections in (1, 2, 6):
                    for point in (spot(0), spot(-1), spot(Fraction(-1, 3), Fraction(5, 7)), spot(0, -2)):
                        self.check_at(adams(steps), other, corrections, point)

    def test_any_old_values(self):
        random = Random(72)
        for rule, other in some_pairs(12):
            for corrections in (1, 3):
                q = (Fraction(random.randint(-5, 5), 2), Fraction(random.randint(-5, 5), 3))
                values = [(Fraction(random.randint(-9, 9)), Fraction(random.randint(-9, 9))) for _ in rule[0][1:]]
                total = step_of(rule, other, corrections, q, values)
                for (real, turn), value in zip(pair_polynomial(rule, other, corrections, spot(*q)), values):
                    less = times((python_of(real), python_of(turn)), value)
                    total = (total[0] + less[0], total[1] + less[1])
                self.assertEqual(total, (0, 0))

    def test_multiples_of_the_rules(self):
        for rule, other in some_pairs(12):
            point = spot(Fraction(-3, 4), Fraction(1, 5))
            told = pair_polynomial(rule, other, 2, point)
            self.assertEqual(pair_polynomial(scaled(rule, -3), scaled(other, Fraction(2, 7)), 2, point), told)

    def test_an_explicit_correction(self):
        # Then the guess does not matter, nor how often it is corrected.
        for point in (spot(-1), spot(Fraction(1, 3), -2)):
            for corrections in range(1, 7):
                for guess in (EULER, STILL, GROWN, SLOW):
                    self.assertEqual(pair_polynomial(guess, EULER, corrections, point), pair_polynomial(EULER, EULER, 1, point))
                self.check_at(adams(3), rule_of((0, 0, -1, 1), (0, 0, 1, 0)), corrections, point)

    def test_great_numbers(self):
        rule, other = rule_of((HUGE, 1, -HUGE), (1, Fraction(1, HUGE), 0)), rule_of((1, HUGE, 3), (Fraction(2, HUGE), 5, HUGE))
        for corrections in (1, 6):
            for point in (spot(HUGE), spot(Fraction(1, HUGE), Fraction(HUGE, 3)), spot(0)):
                self.check_at(rule, other, corrections, point)


class Words(PairCase):

    def test_each_word(self):
        self.assertEqual(self.check_at(EULER, HALVES, 1, spot(-1)), "damped")
        self.assertEqual(self.check_at(EULER, HALVES, 1, spot(-2)), "kept")
        self.assertEqual(self.check_at(EULER, HALVES, 1, spot(-3)), "grows")
        self.assertEqual(self.check_at(EULER, HALVES, 1, spot(0)), "kept")
        self.assertEqual(self.check_at(EULER, HALVES, 1, spot(0, 1)), "grows")
        self.assertEqual(self.check_at(STILL, STILL, 3, spot(HUGE)), "damped")

    def test_roots_on_the_circle(self):
        cases = (
            ([(-1, 1), (1, 1)], (0, 2, 0), "kept"), ([(-1, 1), (-1, 1)], (0, 2, 0), "grows"), ([(1, 0, 1), (0, 1)], (1, 2, 0), "kept"),
            ([(1, 0, 1), (1, 0, 1)], (0, 4, 0), "grows"), ([(1, 0, 1), (2, 1)], (0, 2, 1), "grows"), ([(1, 2), (1, 3)], (2, 0, 0), "damped"),
            ([(5, -6, 5), (-1, 1), (0, 1)], (1, 3, 0), "kept"), ([(5, -6, 5), (5, -6, 5), (0, 1)], (1, 4, 0), "grows"),
        )
        for factors, counts, word in cases:
            row = product_of(*factors)
            steps = len(row) - 1
            guess = rule_of([5] * (steps + 1), [3] * steps + [0])
            other = rule_of(row, [1] * (steps + 1))
            for corrections in (1, 4):
                # At 0 the slopes do not matter, and at other points not for a correction without slopes.
                self.assertEqual(pair_counts(guess, other, corrections, ORIGIN), counts)
                self.assertEqual(self.check_at(guess, other, corrections, ORIGIN), word)
                still = (other[0], (NIL,) * (steps + 1))
                self.assertEqual(pair_counts(guess, still, corrections, spot(-7, 3)), counts)
                self.assertEqual(self.check_at(guess, still, corrections, spot(-7, 3)), word)

    def test_an_explicit_correction_tells_what_the_rule_tells(self):
        random = Random(73)
        for guess, other in some_pairs(30, range(1, 9)):
            other = (other[0], other[1][:-1] + (NIL,))
            point = spot(Fraction(random.randint(-6, 6), 3), Fraction(random.randint(-3, 3), 2))
            self.assertEqual(pair_counts(guess, other, 3, point), point_counts(other, point))
            self.assertEqual(pair_word(guess, other, 3, point), point_word(other, point))

    def test_drawn_pairs_near(self):
        random = Random(74)
        seen = {}
        for guess, other in some_pairs(60):
            corrections = random.randint(1, 6)
            point = spot(Fraction(random.randint(-9, 3), 7), Fraction(random.randint(-3, 3), 5))
            sizes = [abs(each) for each in near_roots([as_complex(each) for each in pair_polynomial(guess, other, corrections, point)])]
            word = self.check_at(guess, other, corrections, point)
            if all(abs(each - 1) > 1e-5 for each in sizes):
                inside = len([each for each in sizes if each < 1])
                self.assertEqual(pair_counts(guess, other, corrections, point), (inside, 0, len(sizes) - inside))
                seen[word] = True
        self.assertEqual(sorted(seen), ["damped", "grows"])

    def test_conjugate_points(self):
        for guess, other in some_pairs(20):
            for across, along in ((-1, 2), (Fraction(-1, 5), Fraction(1, 3))):
                told = [pair_counts(guess, other, 2, spot(across, sign * along)) for sign in (1, -1)]
                self.assertEqual(told[0], told[1])


class Orders(PairCase):

    def check_order_of(self, rule, other, corrections, told):
        self.assertEqual(pair_order(rule, other, corrections), told)
        self.assertEqual(pair_order(corrections=corrections, other=other, rule=rule), told)

    def test_a_guess_of_the_order_minus_1(self):
        self.assertEqual([order_of(each) for each in (FLAT, STILL, GROWN)], [-1, -1, -1])
        for corrections in range(1, 7):
            self.check_order_of(FLAT, HALVES, corrections, min(2, corrections - 1))
            self.check_order_of(STILL, BACK_EULER, corrections, min(1, corrections - 1))
            self.check_order_of(GROWN, EULER, corrections, 1)

    def test_a_guess_of_the_order_0(self):
        self.assertEqual(order_of(SLOW), 0)
        for corrections in range(1, 7):
            self.check_order_of(SLOW, HALVES, corrections, min(2, corrections))
            self.check_order_of(SLOW, EULER, corrections, 1)

    def test_a_guess_of_the_order_1(self):
        for corrections in range(1, 7):
            self.check_order_of(EULER, HALVES, corrections, 2)
            self.check_order_of(EULER, BACK_EULER, corrections, 1)
            self.check_order_of(multiplied(EULER, (NIL, ONE)), TWIN, corrections, 2)
            self.check_order_of(multiplied(EULER, (NIL, NIL, ONE)), moulton(3), corrections, min(4, 1 + corrections))

    def test_a_correction_without_an_order(self):
        for other in (FLAT, GROWN, rule_of((1, 1), (0, 1)), rule_of((0, 1), (0, 0))):
            for corrections in (1, 6):
                self.check_order_of(EULER, other, corrections, -1)
                self.check_order_of(STILL, other, corrections, -1)
        self.check_order_of(EULER, rule_of((-1, 1), (0, 3)), 4, 0)

    def test_named_rules(self):
        for steps in range(1, 9):
            for corrections in range(1, 7):
                self.check_order_of(adams(steps), moulton(steps), corrections, steps + 1)
                self.check_order_of(adams(steps), backward(steps), corrections, steps)
                self.check_order_of(adams(steps), adams(steps), corrections, steps)

    def test_the_local_errors(self):
        # For y' = q y with the size h the step is right up to h to the power of the order; the next power mostly is not.
        # It tells a polynomial in q; put on exp it must fit.
        for rule, other in ((EULER, HALVES), (FLAT, HALVES), (SLOW, HALVES), (adams(2), moulton(2)), (SLOW, BACK_EULER), (LEAP, TWIN),
                            (multiplied(SLOW, (NIL, ONE)), moulton(2)), (WILD, moulton(2))):
            for corrections in (1, 2, 3):
                steps = len(rule[0]) - 1
                order = pair_order(rule, other, corrections)
                gaps = []
                for q in (Fraction(1, 10 ** 4), Fraction(1, 10 ** 8)):
                    series = [sum((q * at) ** power / factorial(power) for power in range(12)) for at in range(steps + 1)]
                    total = sum(python_of(each[0]) * value
                                for each, value in zip(pair_polynomial(rule, other, corrections, spot(q)), series))
                    gaps.append(abs(total) / q ** (order + 1))
                self.assertLess(gaps[1], 100)
                self.assertLess(abs(gaps[1] - gaps[0]), Fraction(1, 10))


def factorial(number):
    return 1 if number < 2 else number * factorial(number - 1)


class Stretches(PairCase):

    def check(self, rule, other, corrections, *told, many=10):
        """Ends that are numbers of Python's, or pairs that are told, or None."""
        made = tuple(tuple((floor(each * many), each * many == floor(each * many)) if isinstance(each, (int, Fraction)) else each
                           for each in ends) for ends in told)
        self.assertEqual(pair_stretches(rule, other, corrections, many), made)
        self.assertEqual(pair_stretches(many=many, corrections=corrections, other=other, rule=rule), made)
        self.assertEqual(pair_stretches(scaled(rule, -2), scaled(other, Fraction(3, 7)), corrections, many), made)

    def test_by_hand(self):
        for many in (1, 10, 10 ** 12):
            self.check(EULER, HALVES, 1, (-2, 0), many=many)
            self.check(EULER, EULER, 4, (-2, 0), many=many)
            # 1 + q + q q is 1 at 0 and at - 1.
            self.check(EULER, BACK_EULER, 1, (-1, 0), many=many)
        # 1 + q + q q + q q q is - 1 at some - 1.3532.
        self.check(EULER, BACK_EULER, 2, ((-14, False), 0))
        self.check(EULER, BACK_EULER, 2, ((-1353209964200, False), 0), many=10 ** 12)
        self.check(EULER, BACK_EULER, 2, ((-2, False), 0), many=1)

    def test_none(self):
        self.check(EULER, GROWN, 1)
        self.check(GROWN, GROWN, 6)
        self.check(LEAP, LEAP, 2)
        self.check(EULER, rule_of((-1, 1), (0, 0)), 2)
        self.check(EULER, rule_of((1, 1), (0, 0)), 2)
        # 1 / z is a root wherever z is one, whatever q.
        self.check(LEAP, rule_of((1, 0, 1), (0, 1, 0)), 3)
        self.check(rule_of((0, 0, 0, 1), (0, 0, 0, 0)), rule_of((2, 1, 3, 1), (0, 0, 0, 0)), 3)

    def test_all(self):
        self.check(STILL, STILL, 1, (None, None))
        self.check(EULER, STILL, 6, (None, None))
        self.check(LEAP, rule_of((1, 2, 4), (0, 0, 0)), 2, (None, None), many=10 ** 12)
        for steps in range(1, 5):
            last = [0] * steps + [1]
            self.check(rule_of([3] * steps + [1], [2] * steps + [0]), rule_of(last, [0] * (steps + 1)), 2, (None, None), many=1)

    def test_stretches_without_a_polynomial_in_q(self):
        # z - q b, z z - q b.
        self.check(EULER, rule_of((0, 1), (2, 0)), 1, (Fraction(-1, 2), Fraction(1, 2)))
        self.check(LEAP, rule_of((0, 0, 1), (Fraction(1, 7), 0, 0)), 5, (-7, 7))

    def test_two_stretches_with_a_common_end(self):
        # The pair tells - 2 q - q q: 1 at - 1 alone, - 1 at - 1 - and + the root of 2.
        rule, other = rule_of((0, 1), (-1, 0)), rule_of((0, 1), (-2, 1))
        self.check(rule, other, 1, ((-2415, False), -1), (-1, (414, False)), many=1000)
        self.check(rule, other, 1, ((-3, False), -1), (-1, (0, False)), many=1)
        self.assertEqual(pair_word(rule, other, 1, spot(-1)), "kept")
        self.assertEqual(pair_word(rule, other, 1, spot(-1 + Fraction(1, HUGE))), "damped")
        # The same with 3 q in the place of q.
        rule, other = rule_of((0, 1), (-3, 0)), rule_of((0, 1), (-6, 3))
        self.check(rule, other, 1, ((-805, False), (-334, False)), ((-334, False), (138, False)), many=1000)
        self.check(rule, other, 1, ((-3, False), -Fraction(1, 3)), (-Fraction(1, 3), (0, False)), many=3)
        # Both stretches are told by the same pair; none is left out.
        rule, other = rule_of((0, 1), (-HUGE, 0)), rule_of((0, 1), (-2 * HUGE, HUGE))
        self.check(rule, other, 1, ((-1, False), (-1, False)), ((-1, False), (0, False)), many=10 ** 12)

    def test_up_to_far_off(self):
        # z - q b with a small or a great b.
        for b in (Fraction(1, 10 ** 15), Fraction(1, HUGE), 3 * HUGE, 10 ** 15):
            for many in (1, 10 ** 12):
                self.check(EULER, rule_of((0, 1), (b, 0)), 2, (Fraction(-1, b), Fraction(1, b)), many=many)

    def check_ends(self, rule, other, corrections):
        """At the ends, beside them, far off and between; how many stretches there are is returned."""
        found = pair_stretches(rule, other, corrections, 10 ** 12)
        told = pair_stretches(rule, other, corrections, 1)
        self.assertEqual(told, tuple(tuple(end and (end[0] // 10 ** 12, end[1] and end[0] % 10 ** 12 == 0) for end in ends)
                                     for ends in found))
        self.assertEqual(sorted(found, key=lambda ends: ends[0] or (-10 ** 99, False)), list(found))
        small = Fraction(1, 10 ** 12)
        places = [Fraction(10 ** 9), Fraction(-10 ** 9), Fraction(0), Fraction(-1), Fraction(-1, 2), Fraction(-1, 10 ** 9)]
        for ends in found:
            for end in ends:
                if end is not None:
                    near = end[0] * small
                    places += [near, near - small, near + small, near + 2 * small, near + small / 2 if end[1] else near]
                    if end[1]:
                        self.assertNotEqual(pair_word(rule, other, corrections, spot(near)), "damped")
            if None not in ends:
                places.append((ends[0][0] + ends[1][0] + 1) * small / 2)
        for place in places:
            # Between the whole number told and the next one it is not seen whether a place is ahead of the end.
            sure = True
            inside = False
            for low, high in found:
                for end in (low, high):
                    if end is not None and not end[1] and end[0] * small < place < (end[0] + 1) * small:
                        sure = False
                above = low is None or place > low[0] * small
                below = high is None or place < (high[0] + (0 if high[1] else 1)) * small
                inside = inside or (above and below)
            if sure:
                self.assertIs(pair_word(rule, other, corrections, spot(place)) == "damped", inside, (rule, other, corrections, place))
        return len(found)

    def test_named_rules(self):
        for steps in range(1, 5):
            for corrections in range(1, 7):
                for other in (moulton(steps), backward(steps)):
                    self.assertGreaterEqual(self.check_ends(adams(steps), other, corrections), 1)

    def test_drawn_pairs(self):
        random = Random(75)
        seen = {}
        for rule, other in some_pairs(60):
            seen[self.check_ends(rule, other, random.randint(1, 6))] = True
        for rule, other in some_pairs(60, seed=500):
            # Roots next to 0 at q = 0, so that much is damped.
            steps = len(rule[0]) - 1
            first = [Fraction(random.randint(-2, 2), 9) for _ in range(steps)] + [1]
            seen[self.check_ends(rule, (rule_of(first, [1])[0], other[1]), random.randint(1, 6))] = True
        self.assertTrue({0, 1, 2} <= set(seen), seen)

    def test_great_numbers(self):
        rule, other = rule_of((1, Fraction(1, HUGE), 3), (1, HUGE, 0)), rule_of((1, Fraction(2, HUGE), 5), (3, 1, Fraction(HUGE, 7)))
        for corrections in (1, 3, 6):
            self.check_ends(rule, other, corrections)


class WrongInputs(WrongCase):

    GOOD = {"rule": EULER, "other": HALVES, "corrections": 1}
    AT = (pair_polynomial, pair_counts, pair_word)

    def all_functions(self):
        return [(each, {**self.GOOD, "point": ORIGIN}) for each in self.AT] + [
            (pair_order, self.GOOD), (pair_stretches, {**self.GOOD, "many": 1}),
        ]

    def test_what_is_no_rule(self):
        for function, good in self.all_functions():
            self.check_odd(InvalidRule, ODD_RULES, function, good, "rule", "other")

    def test_what_is_no_number(self):
        for function, good in self.all_functions():
            self.check_odd(InvalidNumber, odd_numbers(1, 6), function, good, "corrections")
        self.check_odd(InvalidNumber, odd_numbers(1, 10 ** 12), pair_stretches, {**self.GOOD, "many": 1}, "many")

    def test_what_is_no_point(self):
        for function in self.AT:
            self.check_odd(InvalidPoint, ODD_POINTS, function, {**self.GOOD, "point": ORIGIN}, "point")

    def test_the_order_of_the_checks(self):
        bad = {"rule": ([EULER], InvalidRule, None), "other": ([LEAP], InvalidRule, None), "corrections": (7, InvalidNumber, None)}
        for rule, other in ((EULER, LEAP), (HALVES, EULER), (HALVES, LEAP), (TWIN, EULER), (backward(5), backward(6))):
            good = {"rule": rule, "other": other, "corrections": 1}
            for function in self.AT:
                self.check_order(function, {**good, "point": ORIGIN}, {**bad, "point": (NIL, InvalidPoint, None)})
            self.check_order(pair_order, good, bad)
            self.check_order(pair_stretches, {**good, "many": 1}, {**bad, "many": (0, InvalidNumber, None)})

    def test_what_is_told_last(self):
        for rule, other, kind in (
            (EULER, LEAP, UnlikeSteps), (LEAP, EULER, UnlikeSteps), (HALVES, LEAP, UnlikeSteps), (adams(8), moulton(7), UnlikeSteps),
            (HALVES, EULER, NotExplicit), (BACK_EULER, BACK_EULER, NotExplicit), (backward(8), backward(8), NotExplicit),
            (rule_of((-1, 1), (1, Fraction(1, HUGE))), EULER, NotExplicit), (backward(5), adams(5), NotExplicit),
        ):
            for function in self.AT:
                self.check_bare(kind, function, rule, other, 1, ORIGIN)
                self.check_bare(kind, function, point=ORIGIN, corrections=6, other=other, rule=rule)
            self.check_bare(kind, pair_order, rule, other, 1)
            self.check_bare(kind, pair_stretches, rule, other, 1, 1)

    def test_too_many_steps(self):
        for steps in range(5, 9):
            for other in (moulton(steps), adams(steps), backward(steps)):
                self.check_bare(TooManySteps, pair_stretches, adams(steps), other, 1, 1)
                self.check_bare(TooManySteps, pair_stretches, many=10 ** 12, corrections=6, other=other, rule=adams(steps))
                self.assertEqual(len(pair_polynomial(adams(steps), other, 1, ORIGIN)), steps + 1)
        self.assertEqual(len(pair_stretches(adams(4), moulton(4), 1, 1)), 1)


class Interface(unittest.TestCase):

    def test_names_of_the_parameters(self):
        told = {name: ["rule", "other", "corrections", "point"] for name in ("pair_polynomial", "pair_counts", "pair_word")}
        told["pair_order"] = ["rule", "other", "corrections"]
        told["pair_stretches"] = ["rule", "other", "corrections", "many"]
        for name, parameters in told.items():
            function = getattr(pairs, name)
            self.assertEqual(list(inspect.signature(function).parameters), parameters)
            self.assertEqual(function.__module__, "legsteps.pairs")

    def test_the_examples_of_the_document(self):
        self.assertEqual(
            [pair_polynomial(EULER, HALVES, 1, ((-1, 1), NIL)), pair_counts(EULER, HALVES, 1, ((-1, 1), NIL)),
             pair_word(EULER, HALVES, 1, ((-2, 1), NIL)), pair_word(EULER, HALVES, 1, ((-3, 1), NIL)), pair_order(EULER, HALVES, 1),
             pair_stretches(EULER, HALVES, 1, 10)],
            [(((-1, 2), (0, 1)), ((1, 1), (0, 1))), (1, 0, 0), "kept", "grows", 2, (((-20, True), (0, True)),)],
        )


if __name__ == "__main__":
    unittest.main()
