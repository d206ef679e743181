"""What ties the modules together: points 11, 13, 14, 18, 22, 25, 26, 28, 30 and 33 at once."""

import unittest
from fractions import Fraction
from random import Random

from legsteps.bests import adams, backward, best, best_explicit, moulton
from legsteps.convergence import barrier, converges, kernel, still_run, why_not
from legsteps.lefts import is_safe, is_safe_in, real_wave, side_wave, slope_near, unsafe_point
from legsteps.likes import are_alike, are_same, mixed, multiplied, reduced
from legsteps.pairs import pair_order, pair_polynomial, pair_stretches, pair_word
from legsteps.plains import greatest_ratio, is_raising, keeps, raising_play
from legsteps.polys import plus, times, worth
from legsteps.reals import are_damped_alike, damps_all, parting_real, stretches
from legsteps.roots import are_inside, holds_condition
from legsteps.rules import defects, error_number, first_of, normed, order_of, second_of, steps_of
from legsteps.runs import local_error, slope_run
from legsteps.runs import test_run as led_run
from legsteps.spots import far_word, point_counts, point_word
from samples import (
    BACK_EULER, EULER, FLAT, HALF, HALVES, HUGE, LEAP, NIL, ONE, SLOW, THREE, TWIN, TWO, WILD, pair_of, polynomial_of, python_of,
    rule_of, scaled, some_rules,
)

RULES = (EULER, BACK_EULER, HALVES, LEAP, TWIN, WILD, FLAT, SLOW, THREE, adams(3), moulton(2), backward(4))
INSIDE = ((ONE, TWO), (NIL, ONE), (ONE, NIL, (3, 1)), ((-1, 3), ONE), (HALF, HALF, (5, 1)))
NOT_INSIDE = ((ONE, ONE), ((-1, 1), ONE), (TWO, ONE), (ONE, NIL, ONE), ((5, 1), (-6, 1), (5, 1)))


class RunsAndKernels(unittest.TestCase):

    def test_a_run_beside_a_polynomial(self):
        # From starts on the power ahead of the order the run parts from it by the kernel's numbers times the local errors.
        for rule in RULES + tuple(some_rules(12)):
            steps, degree = steps_of(rule), order_of(rule) + 1
            size = Fraction(2, 3)
            power = polynomial_of([0] * degree + [1])
            slope = polynomial_of([0] * (degree - 1) + [degree]) if degree else ()
            starts = tuple(pair_of((at * size) ** degree) for at in range(steps))
            found = slope_run(rule, slope, pair_of(size), starts, 12)
            grown = [python_of(each) for each in kernel(rule, 11)]
            for at in range(12):
                error = sum(grown[at - place] * python_of(local_error(rule, power, pair_of(size), place)) for place in range(at + 1))
                self.assertEqual(((at + steps) * size) ** degree - python_of(found[at + steps]), error)

    def test_a_run_from_starts_beside_a_polynomial(self):
        # What it parts from the one on the polynomial is a still run.
        random = Random(111)
        for rule in RULES:
            steps, degree = steps_of(rule), max(0, order_of(rule))
            numbers = [Fraction(random.randint(-4, 4), 3) for _ in range(degree)] + [1]
            slope = polynomial_of([at * each for at, each in enumerate(numbers)][1:])
            on = [sum(each * at ** power for power, each in enumerate(numbers)) for at in range(steps)]
            beside = [Fraction(random.randint(-4, 4), 5) for _ in range(steps)]
            one = slope_run(rule, slope, ONE, tuple(map(pair_of, on)), 20)
            other = slope_run(rule, slope, ONE, tuple(pair_of(each + more) for each, more in zip(on, beside)), 20)
            still = still_run(rule, tuple(map(pair_of, beside)), steps + 19)
            self.assertEqual([python_of(each) - python_of(less) for each, less in zip(other, one)], [python_of(each) for each in still])
            self.assertEqual(led_run(rule, NIL, tuple(map(pair_of, beside)), 20), still)

    def test_the_kernel_is_a_run_behind_one_gain(self):
        for rule in RULES:
            steps = steps_of(rule)
            g = kernel(rule, 15)
            self.assertEqual(still_run(rule, (NIL,) * (steps - 1) + (g[0],), steps + 14)[steps - 1:], g)
            self.assertEqual(led_run(rule, NIL, (NIL,) * (steps - 1) + (g[0],), 15)[steps - 1:], g)

    def test_runs_fade_where_they_are_damped(self):
        for rule in RULES:
            for number in (Fraction(-1, 4), Fraction(-1), Fraction(-3), Fraction(1, 2)):
                word = point_word(rule, (pair_of(number), NIL))
                if word != "lost":
                    starts = tuple((each, 1) for each in range(1, steps_of(rule) + 1))
                    found = [abs(python_of(each)) for each in led_run(rule, pair_of(number), starts, 60)]
                    if word == "damped":
                        self.assertLess(max(found[-8:]), max(found[:8]))
                    if word == "grows" and max(found[-8:]) > 100:
                        self.assertGreater(max(found[-8:]), max(found[30:38]))

    def test_a_multiplied_rule_keeps_what_the_rule_binds(self):
        random = Random(112)
        for rule in RULES:
            starts = tuple(pair_of(random.randint(-5, 5)) for _ in range(steps_of(rule)))
            slope = (ONE, (-2, 3), HALF)
            found = slope_run(rule, slope, HALF, starts, 20)
            for factor in INSIDE + NOT_INSIDE:
                grown = multiplied(rule, factor)
                many = steps_of(grown)
                if factor != (NIL, ONE):
                    self.assertEqual(slope_run(grown, slope, HALF, found[:many], 20 + steps_of(rule) - many), found)
                if point_word(rule, ((-1, 3), NIL)) != "lost":
                    run = led_run(rule, (-1, 3), starts, 20)
                    self.assertEqual(led_run(grown, (-1, 3), run[:many], 20 + steps_of(rule) - many), run)


class Likeness(unittest.TestCase):

    def test_multiplied_rules_are_alike(self):
        for rule in RULES:
            for factor in INSIDE + NOT_INSIDE:
                grown = multiplied(rule, factor)
                self.assertIs(are_alike(rule, grown), True)
                self.assertIs(are_same(rule, grown), False)
                self.assertEqual(reduced(grown), reduced(rule))
                self.assertIs(are_alike(reduced(grown), rule), True)
                self.assertEqual(first_of(grown), times(first_of(rule), factor))
                self.assertEqual(second_of(grown), times(second_of(rule), factor))

    def test_by_a_factor_with_all_roots_inside(self):
        for rule in RULES:
            for factor in INSIDE:
                self.assertIs(are_inside(factor), True)
                grown = multiplied(rule, factor)
                self.assertEqual(stretches(grown, 1000), stretches(rule, 1000))
                self.assertIs(are_damped_alike(rule, grown), True)
                self.assertIsNone(parting_real(rule, grown))
                self.assertIs(damps_all(grown), damps_all(rule))
                self.assertIs(is_safe(grown), is_safe(rule))
                self.assertEqual(slope_near(grown, 100), slope_near(rule, 100))
                self.assertIs(is_safe_in(grown, (1, 5)), is_safe_in(rule, (1, 5)))
                for point in ((NIL, NIL), ((-1, 1), NIL), ((-1, 2), HALF), (NIL, ONE)):
                    self.assertEqual(point_word(grown, point), point_word(rule, point))

    def test_by_a_factor_with_other_roots(self):
        for rule in RULES:
            for factor in NOT_INSIDE:
                grown = multiplied(rule, factor)
                self.assertEqual(stretches(grown, 10), ())
                self.assertIs(is_safe(grown), False)
                self.assertIs(are_damped_alike(rule, grown), stretches(rule, 10) == ())

    def test_what_hangs_on_a_rule_by_its_polynomials(self):
        for rule in RULES:
            for factor in INSIDE:
                grown = multiplied(rule, factor)
                self.assertEqual(order_of(grown), order_of(rule))
                at_1 = python_of(worth(factor, (ONE, NIL))[0])
                number = order_of(rule) + 1
                self.assertEqual(python_of(defects(grown, number)[-1]), at_1 * python_of(defects(rule, number)[-1]))
                self.assertEqual(error_number(grown), error_number(rule))
                self.assertEqual(why_not(grown), why_not(rule))
        self.assertEqual(why_not(multiplied(EULER, (TWO, ONE))), "roots")
        self.assertEqual(why_not(multiplied(EULER, ((-1, 1), ONE))), "roots")

    def test_waves_of_multiplied_rules(self):
        # Both are multiplied by the square of the factor's size, which is 5 + 4 cos t here.
        for rule in (EULER, TWIN, THREE):
            grown = multiplied(rule, (ONE, TWO))
            for place in (Fraction(0), Fraction(1, 3), Fraction(-2, 5), Fraction(1)):
                told = []
                for each in (rule, grown):
                    # cos (m t) at cos t = c by its own row.
                    row, total = [Fraction(1), place], Fraction(0)
                    while len(row) < 12:
                        row.append(2 * place * row[-1] - row[-2])
                    for power, number in enumerate(real_wave(each)):
                        total += python_of(number) * row[power]
                    told.append(total)
                self.assertEqual(told[1], told[0] * (5 + 4 * place))
            self.assertEqual(len(side_wave(grown)), len(side_wave(rule)) + 1)

    def test_mixed_rules_and_the_barrier(self):
        for steps in range(1, 9):
            for share in ((1, 3), (-2, 1), (5, 2)):
                rule = mixed(adams(steps), moulton(steps), share)
                self.assertGreaterEqual(order_of(rule), steps)
                self.assertIs(converges(rule), True)
                self.assertLessEqual(order_of(rule), barrier(rule))
                self.assertEqual(normed(rule), rule)

    def test_no_rule_with_the_root_condition_is_above_its_barrier(self):
        for rule in some_rules(100, (1, 2, 3), greatest=2):
            for each in (best(first_of(rule)), best_explicit(first_of(rule))) if defects(rule, 0)[0] == NIL else ():
                if holds_condition(first_of(each)):
                    self.assertLessEqual(order_of(each), barrier(each))


class PairsAndPlains(unittest.TestCase):

    def test_a_pair_that_is_explicit_is_the_rule(self):
        for rule in (EULER, LEAP, WILD, adams(3), adams(4)):
            guess = (rule[0], (NIL,) * len(rule[0]))
            self.assertEqual(pair_stretches(guess, rule, 3, 10 ** 6), stretches(rule, 10 ** 6))
            self.assertEqual(pair_order(guess, rule, 2), order_of(rule))
            for number in ((-1, 3), (-5, 1), (1, 1)):
                self.assertEqual(pair_word(guess, rule, 2, (number, NIL)), point_word(rule, (number, NIL)))

    def test_many_corrections_come_near_the_correction(self):
        # For |s| below 1 the pair's polynomial goes to that of the correction.
        point = ((-1, 4), (1, 5))
        for steps in range(1, 5):
            apart = []
            for corrections in (1, 3, 6):
                found = pair_polynomial(adams(steps), moulton(steps), corrections, point)
                first, second = [[python_of(each) for each in row] for row in moulton(steps)]
                q = complex(-0.25, 0.2)
                told = [complex(a) - q * complex(b) for a, b in zip(first, second)]
                told = [each / told[-1] for each in told]
                apart.append(sum(abs(complex(python_of(real), python_of(turn)) - each) for (real, turn), each in zip(found, told)))
            self.assertTrue(apart[0] > 4 * apart[1] > 16 * apart[2], apart)

    def test_plays_and_orders(self):
        # What keeps has all b from 0 on; no explicit rule of one step does better than plain steps at the order 1.
        for rule in RULES + tuple(adams(each) for each in range(2, 7)):
            ratio = greatest_ratio(rule)
            if ratio not in (None, "endless"):
                self.assertIs(keeps(rule, ratio), True)
                more = pair_of(python_of(ratio) + Fraction(1, HUGE))
                self.assertIs(is_raising(rule, more, raising_play(rule, more)), True)
            if ratio == "endless":
                self.assertIs(keeps(rule, (HUGE, 1)), True)
                self.assertIs(is_safe(rule), True)
            self.assertIs(ratio is None, rule not in (EULER, BACK_EULER, HALVES, SLOW))

    def test_what_is_returned_is_passed_on(self):
        rule = multiplied(rule_of((HUGE, Fraction(1, HUGE)), (1, HUGE)), ((1, HUGE), NIL, (HUGE, 7)))
        again = multiplied(mixed(rule, adams(3), (HUGE, HUGE + 1)), ((1, HUGE), (HUGE, 3)))
        self.assertEqual(steps_of(again), 4)
        self.assertEqual(reduced(multiplied(again, (ONE, TWO))), reduced(again))
        play = raising_play(again, (1, HUGE))
        self.assertIs(is_raising(again, (1, HUGE), play), True)
        found = slope_run(again, play[1], (1, 3), play[1][:4], 5)
        self.assertEqual(led_run(again, NIL, found[-4:], 0), found[-4:])
        self.assertEqual(plus(play[1], ()), play[1])
        point = unsafe_point(again)
        self.assertNotEqual(point_word(again, point), "damped")
        self.assertEqual(sum(point_counts(reduced(again), point)), steps_of(reduced(again)))
        self.assertEqual(far_word(again), far_word(scaled(again, -3)))


if __name__ == "__main__":
    unittest.main()
