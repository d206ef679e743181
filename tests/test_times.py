"""No call of ordinary size takes more than a few seconds."""

import unittest
from fractions import Fraction
from random import Random
from time import process_time

from legsteps.bests import adams, backward, moulton
from legsteps.certificates import (
    certify_convergence, certify_left, certify_likeness, certify_order, certify_pair, certify_ratio, certify_reals, certify_roots, certify_wedge,
    certify_word,
)
from legsteps.checker import accepts
from legsteps.consoles import Console
from legsteps.lefts import is_safe_in, slope_near
from legsteps.likes import are_alike, mixed, multiplied, reduced
from legsteps.pairs import pair_counts, pair_order, pair_polynomial, pair_stretches, pair_word
from legsteps.plains import greatest_ratio, is_raising, raising_play
from legsteps.reals import are_damped_alike, parting_real, stretches, undamped_below
from legsteps.runs import local_error, slope_run
from legsteps.runs import test_run as led_run
from legsteps.workshops import Workshop
from samples import HUGE, NIL, ONE, TOUCHING, TOUCHING_TWICE, pair_of, rule_of

# All take less than half of it on an ordinary machine.
SECONDS = 10
GREATEST = 10 ** 12


def drawn_fraction(random, greatest):
    return pair_of(Fraction(random.randint(-greatest, greatest), random.randint(1, greatest)))


def drawn_rule(random, steps, greatest, is_explicit=False):
    """A rule with numbers up to the greatest one, each with another denominator."""
    first, second = [[drawn_fraction(random, greatest) for _ in range(steps + 1)] for _ in range(2)]
    first[-1] = pair_of(Fraction(random.randint(1, greatest), random.randint(1, greatest)))
    if is_explicit:
        second[-1] = NIL
    return (tuple(first), tuple(second))


class Times(unittest.TestCase):

    def timed(self, function, *told):
        start = process_time()
        found = function(*told)
        self.assertLess(process_time() - start, SECONDS, function)
        return found

    def rules(self, *greatest):
        random = Random(151)
        found = [made(steps) for made in (adams, moulton, backward) for steps in (4, 8)] + [TOUCHING, TOUCHING_TWICE]
        return found + [drawn_rule(random, steps, each) for steps in (4, 8) for each in greatest]

    def test_numbers_on_the_line_and_on_the_left(self):
        # One number of 400 figures, too.
        for rule in self.rules(9, 10 ** 3, 10 ** 30) + [rule_of((1, -HUGE, 3, HUGE), (1, HUGE, Fraction(1, HUGE), 5))]:
            self.timed(stretches, rule, GREATEST)
            self.timed(undamped_below, rule)
            self.timed(are_damped_alike, rule, backward(8))
            self.timed(parting_real, rule, backward(8))
            self.timed(slope_near, rule, GREATEST)
            self.timed(is_safe_in, rule, (1, HUGE))

    def test_likes_and_plains(self):
        random = Random(152)
        for greatest in (9, 10 ** 30, HUGE):
            rule, factor = drawn_rule(random, 5, greatest), tuple(drawn_fraction(random, greatest) for _ in range(4))
            grown = self.timed(multiplied, rule, factor)
            self.assertEqual(self.timed(reduced, grown), self.timed(reduced, rule))
            self.assertIs(self.timed(are_alike, grown, rule), True)
            self.timed(mixed, grown, grown, factor[0])
            self.timed(greatest_ratio, grown)
            play = self.timed(raising_play, grown, ONE)
            self.assertIs(self.timed(is_raising, grown, ONE, play), True)

    def test_pairs(self):
        random = Random(153)
        for greatest in (9, 10 ** 3, 10 ** 30):
            for steps in (1, 4, 8):
                rule, other = drawn_rule(random, steps, greatest, True), drawn_rule(random, steps, greatest)
                point = (drawn_fraction(random, greatest), drawn_fraction(random, greatest))
                for corrections in (1, 6):
                    self.timed(pair_polynomial, rule, other, corrections, point)
                    self.timed(pair_counts, rule, other, corrections, point)
                    self.timed(pair_word, rule, other, corrections, point)
                    self.timed(pair_order, rule, other, corrections)
                    if steps < 5:
                        self.timed(pair_stretches, rule, other, corrections, GREATEST)
        for steps in range(1, 5):
            self.timed(pair_stretches, adams(steps), moulton(steps), 6, GREATEST)

    def test_runs(self):
        random = Random(154)
        for greatest in (9, 10 ** 20):
            rule = drawn_rule(random, 8, greatest)
            starts = tuple(drawn_fraction(random, greatest) for _ in range(8))
            polynomial = tuple(drawn_fraction(random, greatest) for _ in range(59)) + (ONE,)
            self.timed(led_run, rule, starts[0], starts, 60)
            self.timed(slope_run, rule, polynomial, (3, 7), starts, 60)
            self.timed(local_error, rule, polynomial, (3, 7), 60)

    def test_certificates(self):
        polynomial = tuple((each - 30, 1) for each in range(60))
        told = [self.timed(certify_roots, polynomial)]
        for rule in self.rules(9, 10 ** 3):
            for function in (certify_convergence, certify_order, certify_reals, certify_left):
                told.append(self.timed(function, rule))
            told.append(self.timed(certify_word, rule, ((-1, 3), (1, HUGE))))
            told.append(self.timed(certify_wedge, rule, (7, 2)))
            told.append(self.timed(certify_ratio, rule, (1, HUGE)))
            told.append(self.timed(certify_likeness, rule, adams(8)))
        told.append(self.timed(certify_pair, adams(8), moulton(8), 6, ((-1, 3), (1, HUGE))))
        for claim, paper in told:
            self.assertIs(self.timed(accepts, claim, paper), True)

    def test_a_workshop_with_many_rules_and_wishes(self):
        shop = Workshop()
        console = Console(shop)

        def fill():
            for first in "abcdefghijklmnopqrst":
                for second in "abcdefghij":
                    shop.put(first + second, moulton(1))
                    shop.wish(("converges", first + second))
                    shop.wish(("safe", first + second))
                    console.say(f"order {first + second}")
            with shop.trial():
                shop.put("aa", backward(2))
            while len(shop):
                shop.undo()

        self.timed(fill)
        self.assertEqual(shop.names, ())


if __name__ == "__main__":
    unittest.main()
