"""Points 8 and 9: how many roots lie inside, on and outside the circle, and the root condition."""

import inspect
import unittest
from fractions import Fraction
from random import Random

from legsteps import roots
from legsteps.chains import changes_of, real_counts, signed_chain, slopes_of
from legsteps.circle import circle_counts, shifted
from legsteps.errors import InvalidPolynomial
from legsteps.polys import common, divided, plus, times, worth
from legsteps.roots import are_inside, holds_condition, root_counts
from samples import HALF, HUGE, LESS_ONE, MORE_ONE, NIL, ONE, TWO, near_roots, pair_of, polynomial_of, product_of
from wrongs import ODD_POLYNOMIALS, WrongCase

# Factors with the numbers of their roots inside, on and outside the circle.
INSIDE = (
    ((0, 1), 1), ((1, 2), 1), ((-1, 2), 1), ((-2, 3), 1), ((-99, 100), 1), ((1, 0, 3), 2), ((1, 1, 2), 2), ((-1, 0, 2), 2),
    ((1, 1, Fraction(101, 100)), 2), ((1, 0, 0, 2), 3),
)
ON = (
    ((-1, 1), 1), ((1, 1), 1), ((1, 0, 1), 2), ((1, 1, 1), 2), ((1, -1, 1), 2), ((5, -6, 5), 2), ((5, 6, 5), 2),
    ((25, -14, 25), 2), ((3, 2, 3), 2), ((1, Fraction(1, 3), 1), 2), ((1, 1, 1, 1, 1), 4), ((1, 0, 0, 0, 1), 4),
)
OUTSIDE = (
    ((2, 1), 1), ((-2, 1), 1), ((-3, 2), 1), ((100, -99), 1), ((3, 0, 1), 2), ((2, 1, 1), 2), ((-2, 0, 1), 2),
    ((Fraction(101, 100), 1, 1), 2), ((2, 0, 0, 1), 3),
)
# Roots z and 1 / z, none of them on the circle.
MIRRORED = (
    ((2, -5, 2), 2), ((2, 5, 2), 2), ((1, -3, 1), 2), ((1, 3, 1), 2), ((6, -5, -38, -5, 6), 4), ((1, 0, 3, 0, 1), 4),
    ((1, 0, -3, 0, 1), 4), ((2, -3, 4, -3, 2), None), ((4, 0, 1, 0, 4), None), ((-100, 201, -100), 2),
)


def told_counts(polynomial):
    """What the functions tell, which has to fit together."""
    counts = root_counts(polynomial)
    assert sum(counts) == len(polynomial) - 1
    assert are_inside(polynomial) == (counts[1] == counts[2] == 0)
    return counts


def drawn_factors(random, times_each=3):
    """Some factors, each with its class."""
    found = []
    for _ in range(random.randint(0, 4)):
        kind = random.choice(("inside", "on", "outside"))
        row, powers = random.choice({"inside": INSIDE, "on": ON, "outside": OUTSIDE}[kind])
        found += [(kind, row, powers)] * random.choice((1, 1, 1, 2, times_each))
    return found


class Counts(unittest.TestCase):

    def test_single_factors(self):
        for row, powers in INSIDE:
            self.assertEqual(told_counts(polynomial_of(row)), (powers, 0, 0), row)
        for row, powers in ON:
            self.assertEqual(told_counts(polynomial_of(row)), (0, powers, 0), row)
        for row, powers in OUTSIDE:
            self.assertEqual(told_counts(polynomial_of(row)), (0, 0, powers), row)

    def test_mirrored_roots(self):
        for row, powers in MIRRORED:
            if powers is not None:
                self.assertEqual(told_counts(polynomial_of(row)), (powers // 2, 0, powers // 2), row)
                for on, many in ON:
                    made = polynomial_of(product_of(row, on, row))
                    self.assertEqual(told_counts(made), (powers, many, powers), (row, on))
                made = polynomial_of(product_of(row, (0, 1), (1, 2)))
                self.assertEqual(told_counts(made), (powers // 2 + 2, 0, powers // 2), row)
        self.assertEqual(told_counts(polynomial_of((4, 0, 1, 0, 4))), (0, 4, 0))
        self.assertEqual(told_counts(polynomial_of((2, -3, 4, -3, 2))), (0, 4, 0))

    def test_once_twice_and_three_times(self):
        for row, powers in ON:
            for often in (1, 2, 3):
                made = polynomial_of(product_of(*[row] * often))
                self.assertEqual(told_counts(made), (0, powers * often, 0))
                self.assertIs(holds_condition(made), often == 1)
                made = polynomial_of(product_of((1, 3), *[row] * often))
                self.assertEqual(told_counts(made), (1, powers * often, 0))
                self.assertIs(holds_condition(made), often == 1)

    def test_numbers(self):
        for each in (ONE, HALF, (-7, 3), (1, HUGE), (-HUGE, 1)):
            self.assertEqual(told_counts((each,)), (0, 0, 0))
            self.assertIs(holds_condition((each,)), True)
            self.assertIs(are_inside((each,)), True)

    def test_roots_0(self):
        for often in (1, 2, 5, 59):
            made = (NIL,) * often + (ONE,)
            self.assertEqual(told_counts(made), (often, 0, 0))
            self.assertIs(holds_condition(made), True)
            self.assertEqual(told_counts(times(made[-3:], LESS_ONE)), (min(often, 2), 1, 0))

    def test_products_of_drawn_factors(self):
        random = Random(11)
        for _ in range(400):
            factors = drawn_factors(random)
            made = polynomial_of(product_of(*[row for _, row, _ in factors]))
            counts = tuple(sum(powers for kind, _, powers in factors if kind == each) for each in ("inside", "on", "outside"))
            self.assertEqual(told_counts(made), counts, factors)
            circle = polynomial_of(product_of(*[row for kind, row, _ in factors if kind == "on"]))
            twice = len(common(circle, polynomial_of([at * Fraction(*each) for at, each in enumerate(circle)][1:]))) > 1
            self.assertIs(holds_condition(made), counts[2] == 0 and not twice, factors)

    def test_what_multiplying_reversing_and_turning_do(self):
        random = Random(12)
        for _ in range(150):
            row = product_of(*[row for _, row, _ in drawn_factors(random)])
            inside, on, outside = told_counts(polynomial_of(row))
            factor = Fraction(random.choice((-1, 1)) * random.randint(1, 9), random.randint(1, 9))
            self.assertEqual(told_counts(polynomial_of([each * factor for each in row])), (inside, on, outside))
            turned = [each * (-1) ** at for at, each in enumerate(row)]
            self.assertEqual(told_counts(polynomial_of(turned)), (inside, on, outside))
            squared = [each for one in row for each in (one, 0)]
            self.assertEqual(told_counts(polynomial_of(squared)), (2 * inside, 2 * on, 2 * outside))
            noughts = next(at for at, each in enumerate(row) if each)
            self.assertEqual(told_counts(polynomial_of(row[::-1])), (outside, on, inside - noughts))
            for each in (turned, [-each for each in row]):
                self.assertIs(holds_condition(polynomial_of(each)), holds_condition(polynomial_of(row)))

    def test_against_roots_told_near(self):
        random = Random(13)
        tried = 0
        for _ in range(200):
            row = [random.randint(-9, 9) for _ in range(random.randint(1, 9))]
            if row[-1]:
                lengths = [abs(root) for root in near_roots(row)]
                if all(abs(each - 1) > 1e-4 for each in lengths):
                    tried += 1
                    inside = sum(each < 1 for each in lengths)
                    self.assertEqual(told_counts(polynomial_of(row)), (inside, 0, len(lengths) - inside), row)
        self.assertGreater(tried, 80)

    def test_great_and_uneven_numbers(self):
        near = Fraction(HUGE, HUGE + 1)
        self.assertEqual(told_counts(polynomial_of((-near, 1))), (1, 0, 0))
        self.assertEqual(told_counts(polynomial_of((-1, near))), (0, 0, 1))
        self.assertEqual(told_counts(polynomial_of((near, 0, 1))), (2, 0, 0))
        self.assertEqual(told_counts(polynomial_of(product_of((-near, 1), (-1, 1), (-1, near)))), (1, 1, 1))
        self.assertEqual(told_counts(polynomial_of(product_of((HUGE, -1), (1, HUGE), (1, 0, 1), (1, 1)))), (1, 3, 1))
        turn = Fraction(2 * (HUGE ** 2 - 1), HUGE ** 2 + 1)
        self.assertEqual(told_counts(polynomial_of((1, turn, 1))), (0, 2, 0))
        self.assertEqual(told_counts(polynomial_of((1, turn + Fraction(1, HUGE ** 5), 1))), (0, 2, 0))
        self.assertEqual(told_counts(polynomial_of((1, 2 + Fraction(1, HUGE), 1))), (1, 0, 1))
        self.assertEqual(told_counts(polynomial_of((1, 2 - Fraction(1, HUGE), 1))), (0, 2, 0))
        self.assertIs(holds_condition(polynomial_of(product_of((1, turn, 1), (1, turn, 1)))), False)
        row = [Fraction(7 ** (at * 9 % 40), 3 ** (at * 7 % 30)) for at in range(13)]
        inside = sum(abs(root) < 1 for root in near_roots(row))
        self.assertEqual(told_counts(polynomial_of(row)), (inside, 0, 12 - inside))

    def test_sixty_elements(self):
        self.assertEqual(told_counts((ONE,) * 60), (0, 59, 0))
        self.assertEqual(told_counts((TWO,) + (ONE,) * 59), (0, 0, 59))
        self.assertEqual(told_counts((ONE,) * 59 + (TWO,)), (59, 0, 0))
        self.assertEqual(told_counts(polynomial_of([1] + [0] * 58 + [1])), (0, 59, 0))
        self.assertEqual(told_counts(polynomial_of([-1] + [0] * 58 + [3])), (59, 0, 0))

    def test_near_by_half_a_turn(self):
        self.assertEqual(told_counts(polynomial_of(product_of(*[(1, 1)] * 5, (-1, 1), (3, 1)))), (0, 6, 1))
        self.assertIs(holds_condition(MORE_ONE), True)
        self.assertIs(holds_condition(times(MORE_ONE, MORE_ONE)), False)
        self.assertIs(holds_condition(times(MORE_ONE, LESS_ONE)), True)

    def test_by_name(self):
        self.assertEqual(root_counts(polynomial=LESS_ONE), (0, 1, 0))
        self.assertIs(holds_condition(polynomial=LESS_ONE), True)
        self.assertIs(are_inside(polynomial=LESS_ONE), False)

    def test_what_was_returned_may_be_passed(self):
        long = (pair_of(Fraction(3, 2)),)
        for _ in range(7):
            long = times(long, plus((HALF, NIL, ONE), LESS_ONE))
        self.assertEqual(told_counts(long), (7, 0, 7))
        self.assertEqual(told_counts(divided(long, LESS_ONE)[0])[1], 0)
        great = ((worth(((HUGE, 1), (HUGE, 1), (HUGE, 1)), ((HUGE, 1), NIL))[0]), ONE)
        self.assertEqual(told_counts(great), (0, 0, 1))


class ComplexCounts(unittest.TestCase):

    def test_known_complex_roots(self):
        # Each root is (x + i y) / d.
        drawn = ((3, 4, 5), (-4, 3, 5), (0, 1, 1), (0, -1, 1), (-1, 0, 1), (1, 0, 1), (1, 1, 3), (0, 0, 1), (2, -1, 1), (1, 2, 5))
        random = Random(14)
        for _ in range(500):
            roots_told = [random.choice(drawn) for _ in range(random.randint(0, 6))]
            row = [random.choice(((1, 0), (-2, 1), (0, 3)))]
            for across, along, size in roots_told:
                above, below = [(0, 0)] + [(a * size, b * size) for a, b in row], row + [(0, 0)]
                row = [(a - c * across + d * along, b - c * along - d * across) for (a, b), (c, d) in zip(above, below)]
            lengths = [across ** 2 + along ** 2 - size ** 2 for across, along, size in roots_told]
            on = [root for root, length in zip(roots_told, lengths) if length == 0]
            told = (sum(each < 0 for each in lengths), len(on), sum(each > 0 for each in lengths), len(set(on)))
            self.assertEqual(circle_counts([a for a, _ in row], [b for _, b in row]), told, roots_told)


class Chains(unittest.TestCase):

    def test_real_roots(self):
        for factors, told in (
            (((-1, 1), (2, 1)), (2, 2)), (((-1, 1), (-1, 1), (2, 3)), (3, 2)), (((1, 0, 1),), (0, 0)), (((5,),), (0, 0)),
            (((-2, 0, 1), (1, 1, 1), (1, 1, 1)), (2, 2)), (((0, 1),) * 4, (4, 1)), (((0, 1),) * 3 + ((1, 3),) * 2, (5, 2)),
        ):
            self.assertEqual(real_counts(tuple(int(each) for each in product_of(*factors))), told)

    def test_each_rest_is_less_the_rest_ahead_times_a_number_above_0(self):
        random = Random(15)
        for _ in range(200):
            first = tuple(random.randint(-3, 3) for _ in range(random.randint(1, 7))) + (random.choice((-2, 1, 3)),)
            second = polynomial_of([random.randint(-3, 3) for _ in range(random.randint(0, len(first)))])
            second = tuple(each for each, _ in second)
            chain = signed_chain(first, second)
            for ahead, here, behind in zip(chain, chain[1:], chain[2:] + [()]):
                rest = divided(polynomial_of(ahead), polynomial_of(here))[1]
                self.assertEqual(len(rest), len(behind))
                if rest:
                    factor = Fraction(*rest[-1]) / -behind[-1]
                    self.assertGreater(factor, 0)
                    self.assertEqual(rest, polynomial_of([-factor * each for each in behind]))

    def test_a_chain_with_gaps(self):
        # Knuth's example; the powers go down by two, and the numbers stay as small as they can be told to stay.
        first, second = (-5, 2, 8, -3, -3, 0, 1, 0, 1), (21, -9, -4, 0, 5, 0, 3)
        self.assertEqual(
            [tuple(abs(each) for each in row) for row in signed_chain(first, second)[2:]],
            [(9, 0, 3, 0, 15), (245, 125, 65), (12300, 9326), (260708,)],
        )
        for first, second in (((1, 0, 0, 0, 0, 0, 3), (2, 0, 0, 5)), ((7, 0, 0, 1, 0, 0, 0, 0, 2), (3, 0, 1, 0, 0, 0, 5))):
            for ahead, here, behind in zip(*[signed_chain(first, second)[at:] for at in range(3)]):
                rest = divided(polynomial_of(ahead), polynomial_of(here))[1]
                self.assertEqual(rest, polynomial_of([Fraction(*rest[-1]) / behind[-1] * each for each in behind]))

    def test_slopes_shifts_and_changes(self):
        self.assertEqual(slopes_of((7, 5, 3, 1)), (5, 6, 3))
        self.assertEqual(slopes_of((7,)), ())
        self.assertEqual(shifted((1, 2, 3), 1), [6, 8, 3])
        self.assertEqual(shifted((6, 8, 3), -1), [1, 2, 3])
        self.assertEqual(changes_of([1, 0, -2, -3, 0, 0, 5]), 2)
        self.assertEqual(changes_of([]), 0)


class WrongInputs(WrongCase):

    def test_what_is_no_polynomial_and_the_nought_one(self):
        for function in (root_counts, holds_condition, are_inside):
            for odd in ODD_POLYNOMIALS + ((),):
                self.check_raises(InvalidPolynomial, odd, function, odd)
                self.check_raises(InvalidPolynomial, odd, function, polynomial=odd)


class Interface(unittest.TestCase):

    def test_names_of_the_parameters(self):
        for name in ("root_counts", "holds_condition", "are_inside"):
            function = getattr(roots, name)
            self.assertEqual(list(inspect.signature(function).parameters), ["polynomial"])
            self.assertEqual(function.__module__, "legsteps.roots")

    def test_the_examples_of_the_document(self):
        self.assertEqual(
            [root_counts(((-5, 1), (4, 1), ONE)), root_counts((ONE, NIL, ONE)), root_counts(((-1, 1), TWO)),
             root_counts(times(LESS_ONE, LESS_ONE)), root_counts((TWO,)), root_counts((NIL, NIL, ONE))],
            [(0, 1, 1), (0, 2, 0), (1, 0, 0), (0, 2, 0), (0, 0, 0), (2, 0, 0)],
        )
        self.assertEqual(
            [holds_condition((ONE, NIL, ONE)), holds_condition(times(LESS_ONE, LESS_ONE)),
             holds_condition(((-5, 1), (4, 1), ONE)), are_inside(((-1, 1), TWO)), are_inside(LESS_ONE)],
            [True, False, False, True, False],
        )


if __name__ == "__main__":
    unittest.main()
