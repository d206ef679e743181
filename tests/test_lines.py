"""Real roots, gaps and the polynomial whose roots part what is damped: what points 22 and 23 rest on."""

import unittest
from fractions import Fraction
from itertools import combinations, permutations
from math import floor, prod
from random import Random

from legsteps.chains import real_counts
from legsteps.lines import (
    fraction_root, gap_places, has_root_in, joined_spans, near_root, root_spans, single_roots, told_at, with_nought,
)
from legsteps.rims import determinant, pairs_product, rim_numbers, rim_worth, through
from legsteps.wholes import exact_quotient, product_of as wholes_product
from samples import EULER, HUGE, LEAP, TWIN, product_of, rule_of


def wholes_of(*factors):
    return tuple(int(each) for each in product_of(*factors))


def python_place(place):
    return Fraction(*place)


class Spans(unittest.TestCase):

    def check(self, roots, others=()):
        """The fractions are all real roots of their factors and of the others."""
        roots = sorted(roots)
        numbers = wholes_of(*[(-root.numerator, root.denominator) for root in roots], *others)
        spans = root_spans(numbers)
        self.assertEqual(len(spans), len(roots))
        behind = None
        for root, (low, high) in zip(roots, spans):
            self.assertTrue(python_place(low) < root <= python_place(high))
            self.assertNotEqual(told_at(numbers, low), 0)
            if behind is not None:
                self.assertLess(behind, python_place(low))
            behind = root
        places = [python_place(each) for each in gap_places(spans)]
        self.assertEqual(len(places), len(roots) + 1)
        for root, below, above in zip(roots, places, places[1:]):
            self.assertTrue(below < root < above)
        for root, span in zip(roots, spans):
            self.assertEqual(fraction_root(numbers, span), root.as_integer_ratio())
            for many in (1, 2, 10, 10 ** 12, 7 * HUGE):
                told = (floor(root * many), root * many == floor(root * many))
                self.assertEqual(near_root(numbers, span, many), told)

    def test_no_roots(self):
        self.check([])
        self.check([], [(1, 0, 1)])
        self.assertEqual(gap_places([]), [(0, 1)])

    def test_whole_roots_and_powers_of_2(self):
        for row in ([0], [1], [-1], [0, 1], [-1, 0, 1], [-4, -2, 0, 1, 2, 8], [3, 5, 7], [-1, 1], list(range(-6, 7))):
            self.check([Fraction(each) for each in row])
            self.check([Fraction(each) for each in row], [(5, 1, 3), (1, 0, 1)])

    def test_neighbours_and_wide_ones(self):
        small = Fraction(1, 10 ** 40)
        self.check([Fraction(1), 1 + small, 1 - small])
        self.check([Fraction(-1, 3), -small, Fraction(0), small, Fraction(10 ** 40)])
        self.check([each * sign * small for each in (1, 2, 3) for sign in (1, -1)])
        self.check([each * sign * small for each in (1, 2, 3) for sign in (1, -1)] + [Fraction(0), Fraction(1)])
        self.check([each * sign / small for each in (1, 2, 3) for sign in (1, -1)] + [Fraction(0)])
        self.check([sign * (1 + each * small) for each in (0, 1, 2) for sign in (1, -1)])
        self.check([Fraction(HUGE), Fraction(1, HUGE), Fraction(-HUGE, 3), Fraction(-1, HUGE ** 2)])
        self.check([Fraction(HUGE, HUGE + 1), Fraction(HUGE + 1, HUGE + 2), Fraction(1)])

    def test_drawn_roots(self):
        random = Random(21)
        for _ in range(120):
            roots = {Fraction(random.randint(-40, 40), random.randint(1, 12)) for _ in range(random.randint(1, 7))}
            self.check(list(roots), random.choice(((), [(2, 1, 1)])))

    def test_roots_that_are_no_fractions(self):
        spans = root_spans((-2, 0, 1))
        self.assertEqual([near_root((-2, 0, 1), span, 10 ** 6) for span in spans], [(-1414214, False), (1414213, False)])
        self.assertEqual([fraction_root((-2, 0, 1), span) for span in spans], [None, None])
        great = near_root((-2 * HUGE ** 2, 0, 1), root_spans((-2 * HUGE ** 2, 0, 1))[1], 1)[0]
        self.assertTrue(great ** 2 < 2 * HUGE ** 2 < (great + 1) ** 2)
        numbers = wholes_of((-2, 0, 1), (-5, 3), (1, -3, 1))
        told = [near_root(numbers, span, 1000) for span in root_spans(numbers)]
        self.assertEqual(told, [(-1415, False), (381, False), (1414, False), (1666, False), (2618, False)])

    def test_roots_next_to_the_bounds(self):
        for numbers in ((-3, -3, 2), (-1, -1, -1, 1), (-7, -7, -7, 4), (-3, 3, 2), (2, -3, -3), (4, -7, -7, -7), (1, -1, -1)):
            spans = root_spans(numbers)
            self.assertEqual(len(spans), real_counts(numbers)[0])
            mirrored = tuple(each * (-1) ** at for at, each in enumerate(numbers))
            self.assertEqual(len(root_spans(mirrored)), len(spans))
            for low, high in spans:
                self.assertTrue(told_at(numbers, high) * told_at(numbers, low) <= 0)

    def test_worths(self):
        self.assertEqual(told_at((1, 2, 3), (1, 2)), 11)
        self.assertEqual(told_at((1, 2, 3), (-2, 4)), 12)
        self.assertEqual(told_at((5,), (7, 3)), 5)

    def test_single_roots(self):
        self.assertEqual(single_roots(wholes_of((1, 1), (1, 1), (-1, 2), (-1, 2), (-1, 2))), wholes_of((1, 1), (-1, 2)))
        self.assertEqual(single_roots((6, 4)), (3, 2))
        self.assertIn(single_roots((7,)), ((1,), (7,)))
        self.assertEqual(with_nought((1, 2)), (0, 1, 2))
        self.assertEqual(with_nought((0, 2)), (0, 2))

    def test_whether_a_span_has_a_root(self):
        numbers = wholes_of((-1, 1), (-2, 1), (1, 3))
        spans = root_spans(numbers)
        for at, root in enumerate((Fraction(-1, 3), Fraction(1), Fraction(2))):
            told = [has_root_in((-root.numerator, root.denominator), span) for span in spans]
            self.assertEqual(told, [at == each for each in range(3)])

    def test_spans_of_two_polynomials(self):
        small = Fraction(1, 10 ** 50)
        random = Random(25)
        rows = [([0, 1], [2, -1]), ([], [1]), ([1], []), ([], []), ([0], [small]), ([small], [0]), ([-small], [0, small]),
                ([1, 1 + small], [1 - small, 1 + 2 * small]), ([-2, -2 + small], [-2 - small, 3]), ([1, 2, 4], [3, 5, 6]),
                ([1], [1 + small]), ([1 + small], [1]), ([2, 8], [2 - small, 8 + small]), ([-4, -1], [-4 + small, -1 + small])]
        for _ in range(60):
            drawn = sorted({Fraction(random.randint(-20, 20), random.randint(1, 6)) for _ in range(7)})
            random.shuffle(drawn)
            rows.append((drawn[:3], drawn[3:]))
        for first, second in rows:
            first, second = sorted(map(Fraction, first)), sorted(map(Fraction, second))
            ours, theirs = [wholes_of((1, 0, 1), *[(-root.numerator, root.denominator) for root in row]) for row in (first, second)]
            spans = joined_spans(ours, theirs)
            roots = sorted(first + second)
            self.assertEqual(len(spans), len(roots))
            for root, (low, high) in zip(roots, spans):
                self.assertTrue(python_place(low) < root <= python_place(high))
            places = [python_place(each) for each in gap_places(spans)]
            for root, below, above in zip(roots, places, places[1:]):
                self.assertTrue(below < root < above)
            for root, span in zip(roots, spans):
                self.assertEqual((has_root_in(ours, span), has_root_in(theirs, span)), (root in first, root in second))

    def test_quotients(self):
        self.assertEqual(exact_quotient(wholes_of((1, 2), (3, 0, 5)), (1, 2)), (3, 0, 5))
        self.assertIsNone(exact_quotient((1, 0, 1), (1, 1)))
        self.assertIsNone(exact_quotient((1, 3), (1, 2)))
        self.assertEqual(wholes_product((1, 2, 7), (3, 4, 5)), [3, 10, 34, 38, 35])


class Rims(unittest.TestCase):

    def test_determinants(self):
        random = Random(22)
        for size in range(5):
            for _ in range(30):
                rows = [[random.choice((0, 0, 1, -2, 3)) for _ in range(size)] for _ in range(size)]
                told = 0
                for order in permutations(range(size)):
                    sign = prod(-1 if order[at] > order[to] else 1 for at, to in combinations(range(size), 2))
                    told += sign * prod(rows[at][order[at]] for at in range(size))
                self.assertEqual(determinant(rows), told)

    def test_products_of_pairs_of_roots(self):
        random = Random(23)
        for _ in range(100):
            roots = [Fraction(random.randint(-4, 4), random.randint(1, 4)) for _ in range(random.randint(1, 6))]
            numbers = wholes_of(*[(-root.numerator, root.denominator) for root in roots])
            told = prod(1 - one * other for one, other in combinations(roots, 2)) * numbers[-1] ** (len(roots) - 1)
            self.assertEqual(pairs_product(numbers), told)
            ends = numbers[-1] * sum(numbers) * sum(each * (-1) ** at for at, each in enumerate(numbers))
            self.assertEqual(rim_worth(numbers), told * ends)

    def test_polynomials_through_worths(self):
        random = Random(24)
        for _ in range(60):
            numbers = [random.randint(-9, 9) for _ in range(random.randint(1, 8))]
            worths = [sum(each * at ** power for power, each in enumerate(numbers)) for at in range(len(numbers) + 2)]
            while numbers and numbers[-1] == 0:
                numbers.pop()
            self.assertEqual(through(worths), tuple(numbers))

    def test_rim_numbers(self):
        self.assertIn(rim_numbers(EULER), ((0, 2, 1), (0, -2, -1)))
        self.assertIn(rim_numbers(LEAP), ((0, 1), (0, -1)))
        self.assertEqual(rim_numbers(rule_of((1, 3, 1), (1, 1, 1))), (1,))
        self.assertIn(rim_numbers(TWIN), [tuple(sign * each for each in wholes_of((0, 1), (-4, 1), (-3, 2), (-1, 1)))
                                          for sign in (1, -1)])


if __name__ == "__main__":
    unittest.main()
