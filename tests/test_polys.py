"""Points 4 and 7: polynomials, what they are worth, sums, products, quotients and common ones."""

import inspect
import unittest

from legsteps import polys
from legsteps.errors import InvalidPoint, InvalidPolynomial
from legsteps.numbers import is_point
from legsteps.polys import common, divided, is_polynomial, plus, times, worth
from samples import (
    FRACTIONS, HALF, HUGE, LESS_ONE, MORE_ONE, NIL, ONE, TWO, pair_of, polynomial_of, python_of, some_polynomials,
)
from wrongs import ODD_POINTS, ODD_POLYNOMIALS, WrongCase

ORIGIN = (NIL, NIL)
SQUARE_LESS_ONE = ((-1, 1), NIL, ONE)
GREAT = ((HUGE, 3), (-5, HUGE), (HUGE ** 2 + 1, HUGE), (-HUGE, 1))

BINARY = (plus, times, divided, common)


def python_product(first, second):
    found = [0] * max(0, len(first) + len(second) - 1)
    for at, left in enumerate(first):
        for to, right in enumerate(second):
            found[at + to] += left * right
    return found


def python_row(polynomial):
    return [python_of(each) for each in polynomial]


class Polynomials(unittest.TestCase):

    def test_polynomials(self):
        for value in ((), (ONE,), ((-7, 3),), (NIL, ONE), (NIL, NIL, HALF), GREAT, (NIL,) * 59 + (ONE,), ((1, HUGE),)):
            self.assertIs(is_polynomial(value), True)
            self.assertIs(is_polynomial(value=value), True)

    def test_what_is_none(self):
        for value in ODD_POLYNOMIALS:
            self.assertIs(is_polynomial(value), False)
            self.assertIs(is_polynomial(value=value), False)

    def test_each_fraction_but_0_is_one_element(self):
        for fraction in FRACTIONS:
            self.assertIs(is_polynomial((fraction,)), fraction != NIL)
            self.assertIs(is_polynomial((fraction, ONE)), True)


class Sums(unittest.TestCase):

    def test_sums(self):
        self.assertEqual(plus(LESS_ONE, MORE_ONE), (NIL, TWO))
        self.assertEqual(plus((HALF,), (NIL, NIL, HALF)), (HALF, NIL, HALF))
        self.assertEqual(plus((NIL, NIL, HALF), (HALF,)), (HALF, NIL, HALF))
        self.assertEqual(plus(((1, 6), ONE), ((1, 3), ONE)), (HALF, TWO))

    def test_nought_on_either_side(self):
        for each in (LESS_ONE, GREAT, (HALF,), ()):
            self.assertEqual(plus(each, ()), each)
            self.assertEqual(plus((), each), each)

    def test_highest_powers_vanish(self):
        self.assertEqual(plus(LESS_ONE, (ONE, (-1, 1))), ())
        self.assertEqual(plus((ONE, NIL, HALF, TWO), (ONE, NIL, (-1, 2), (-2, 1))), (TWO,))
        self.assertEqual(plus((NIL, NIL, ONE), (NIL, ONE, (-1, 1))), (NIL, ONE))
        self.assertEqual(plus((NIL, ONE), (NIL, ONE)), (NIL, TWO))

    def test_by_name(self):
        self.assertEqual(plus(polynomial=(ONE,), other=LESS_ONE), (NIL, ONE))
        self.assertEqual(plus(other=(ONE,), polynomial=(HALF,)), ((3, 2),))

    def test_as_python_adds(self):
        rows = some_polynomials(60)
        for first in rows:
            for second in rows[:12]:
                left, right = python_row(first), python_row(second)
                many = max(len(left), len(right))
                left, right = left + [0] * (many - len(left)), right + [0] * (many - len(right))
                self.assertEqual(plus(first, second), polynomial_of([a + b for a, b in zip(left, right)]))


class Products(unittest.TestCase):

    def test_products(self):
        self.assertEqual(times(LESS_ONE, MORE_ONE), SQUARE_LESS_ONE)
        self.assertEqual(times((NIL, HALF), (NIL, NIL, TWO)), (NIL, NIL, NIL, ONE))
        self.assertEqual(times((HALF,), LESS_ONE), ((-1, 2), HALF))
        self.assertEqual(times(LESS_ONE, (HALF,)), ((-1, 2), HALF))
        self.assertEqual(times((HALF,), (TWO,)), (ONE,))

    def test_nought_on_either_side(self):
        for each in (LESS_ONE, GREAT, (HALF,), ()):
            self.assertEqual(times(each, ()), ())
            self.assertEqual(times((), each), ())

    def test_by_name(self):
        self.assertEqual(times(other=(TWO,), polynomial=LESS_ONE), ((-2, 1), TWO))

    def test_as_python_multiplies(self):
        rows = some_polynomials(60)
        for first in rows:
            for second in rows[:12]:
                told = polynomial_of(python_product(python_row(first), python_row(second)))
                self.assertEqual(times(first, second), told)

    def test_large_numbers_and_long_ones(self):
        self.assertEqual(times(GREAT, GREAT), polynomial_of(python_product(python_row(GREAT), python_row(GREAT))))
        long = (ONE,) * 60
        self.assertEqual(times(long, LESS_ONE), ((-1, 1),) + (NIL,) * 59 + (ONE,))
        self.assertEqual(len(times(long, long)), 119)


class Worths(unittest.TestCase):

    def test_worths(self):
        self.assertEqual(worth(((1, 1), TWO, ONE), (NIL, ONE)), (NIL, TWO))
        self.assertEqual(worth(LESS_ONE, (ONE, NIL)), ORIGIN)
        self.assertEqual(worth((HALF, HALF), (HALF, NIL)), ((3, 4), NIL))
        self.assertEqual(worth((ONE, NIL, ONE), (NIL, (-1, 1))), ORIGIN)
        self.assertEqual(worth((NIL, NIL, NIL, ONE), (HALF, (1, 3))), ((-1, 24), (23, 108)))

    def test_at_0_it_is_the_first_number(self):
        self.assertEqual(worth(GREAT, ORIGIN), (GREAT[0], NIL))
        self.assertEqual(worth((NIL, ONE), ORIGIN), ORIGIN)

    def test_nought_and_numbers(self):
        for point in (ORIGIN, (HALF, (-3, 7)), ((HUGE, 3), (1, HUGE))):
            self.assertEqual(worth((), point), ORIGIN)
            self.assertEqual(worth(((-7, 3),), point), ((-7, 3), NIL))
            self.assertEqual(worth((NIL, ONE), point), point)

    def test_by_name(self):
        self.assertEqual(worth(point=(NIL, TWO), polynomial=(NIL, HALF)), (NIL, ONE))

    def test_as_powers_tell(self):
        points = ((HALF, (1, 3)), (NIL, (-5, 4)), ((-7, 6), NIL), ((HUGE, 2), (-3, HUGE)), (ONE, ONE))
        for polynomial in some_polynomials(40) + [GREAT]:
            for point in points:
                across, along = python_row(point)
                real, turned, low, high = 0, 0, 1, 0
                for number in python_row(polynomial):
                    real, turned = real + number * low, turned + number * high
                    low, high = low * across - high * along, low * along + high * across
                found = worth(polynomial, point)
                self.assertEqual(found, (pair_of(real), pair_of(turned)))
                self.assertTrue(is_point(found))


class Quotients(unittest.TestCase):

    def test_quotients(self):
        self.assertEqual(divided(SQUARE_LESS_ONE, LESS_ONE), (MORE_ONE, ()))
        self.assertEqual(divided((ONE, NIL, ONE), LESS_ONE), (MORE_ONE, (TWO,)))
        self.assertEqual(divided((NIL, ONE), (ONE, TWO)), ((HALF,), ((-1, 2),)))
        self.assertEqual(divided((ONE, NIL, NIL, NIL, ONE), (ONE, NIL, TWO)), (((-1, 4), NIL, HALF), ((5, 4),)))

    def test_fewer_elements_than_the_divisor(self):
        self.assertEqual(divided((ONE,), LESS_ONE), ((), (ONE,)))
        self.assertEqual(divided(LESS_ONE, GREAT), ((), LESS_ONE))
        self.assertEqual(divided((), LESS_ONE), ((), ()))
        self.assertEqual(divided((), (HALF,)), ((), ()))

    def test_by_a_number(self):
        self.assertEqual(divided(LESS_ONE, (HALF,)), (((-2, 1), TWO), ()))
        self.assertEqual(divided((TWO,), ((-3, 1),)), (((-2, 3),), ()))

    def test_as_many_elements(self):
        self.assertEqual(divided(LESS_ONE, MORE_ONE), ((ONE,), ((-2, 1),)))
        self.assertEqual(divided(GREAT, GREAT), ((ONE,), ()))

    def test_rests_with_noughts_at_their_end(self):
        self.assertEqual(divided((ONE, NIL, NIL, NIL, ONE), (NIL, NIL, NIL, ONE)), ((NIL, ONE), (ONE,)))
        self.assertEqual(divided((HALF, ONE, NIL, ONE), (NIL, ONE, NIL, ONE)), ((ONE,), (HALF,)))

    def test_by_name(self):
        self.assertEqual(divided(other=LESS_ONE, polynomial=SQUARE_LESS_ONE), (MORE_ONE, ()))

    def test_quotient_times_divisor_and_rest_give_the_polynomial(self):
        rows = some_polynomials(60, powers=8) + [GREAT, times(GREAT, GREAT)]
        for polynomial in rows:
            for other in rows[:10] + [GREAT]:
                if other:
                    quotient, rest = divided(polynomial, other)
                    self.assertTrue(is_polynomial(quotient) and is_polynomial(rest))
                    self.assertLess(len(rest), len(other))
                    self.assertEqual(plus(times(quotient, other), rest), polynomial)

    def test_nought_is_refused_as_divisor(self):
        for polynomial in ((), (ONE,), LESS_ONE, GREAT):
            with self.assertRaises(InvalidPolynomial) as caught:
                divided(polynomial, ())
            self.assertEqual(caught.exception.given, ())


class Commons(unittest.TestCase):

    def test_commons(self):
        self.assertEqual(common(SQUARE_LESS_ONE, (TWO, TWO)), MORE_ONE)
        self.assertEqual(common(LESS_ONE, MORE_ONE), (ONE,))
        self.assertEqual(common(LESS_ONE, (HALF, (-1, 2))), LESS_ONE)
        self.assertEqual(common((NIL, TWO), (NIL, NIL, HALF)), (NIL, ONE))
        self.assertEqual(common((ONE, NIL, TWO), (ONE, NIL, TWO)), (HALF, NIL, ONE))

    def test_nought(self):
        self.assertEqual(common((), ()), ())
        self.assertEqual(common((), (TWO, (4, 3))), ((3, 2), ONE))
        self.assertEqual(common((TWO, (-4, 3)), ()), ((-3, 2), ONE))
        self.assertEqual(common(((-7, 3),), ()), (ONE,))
        self.assertEqual(common((), LESS_ONE), LESS_ONE)

    def test_numbers(self):
        self.assertEqual(common((HALF,), LESS_ONE), (ONE,))
        self.assertEqual(common(LESS_ONE, ((-3, 1),)), (ONE,))
        self.assertEqual(common((TWO,), ((4, 1),)), (ONE,))

    def test_powers_are_counted(self):
        square, cube = times(MORE_ONE, MORE_ONE), times(MORE_ONE, times(MORE_ONE, MORE_ONE))
        self.assertEqual(common(times(square, LESS_ONE), cube), square)
        self.assertEqual(common(cube, square), square)

    def test_by_name(self):
        self.assertEqual(common(other=LESS_ONE, polynomial=SQUARE_LESS_ONE), LESS_ONE)

    def test_multiples_of_a_third_one(self):
        for shared in some_polynomials(40):
            if shared:
                leading = times(shared, (pair_of(1 / python_of(shared[-1])),))
                self.assertEqual(common(times(shared, LESS_ONE), times((HALF, ONE, TWO), shared)), leading)
                self.assertEqual(common(times(shared, (NIL, TWO)), times(((-5, 2),), shared)), leading)

    def test_large_numbers(self):
        leading = times(GREAT, ((-1, HUGE),))
        self.assertEqual(common(times(GREAT, LESS_ONE), times(GREAT, MORE_ONE)), leading)
        self.assertEqual(common(times(GREAT, LESS_ONE), times(LESS_ONE, MORE_ONE)), LESS_ONE)
        self.assertEqual(common(GREAT, plus(GREAT, (ONE,))), (ONE,))

    def test_both_are_divided_and_nothing_greater_divides(self):
        rows = some_polynomials(30, greatest=2, powers=5)
        for first in rows:
            for second in rows:
                found = common(first, second)
                self.assertEqual(found, common(second, first))
                if found:
                    parts = [divided(each, found) for each in (first, second)]
                    self.assertEqual([rest for _, rest in parts], [(), ()])
                    self.assertEqual(found[-1], ONE)
                    self.assertEqual(common(parts[0][0], parts[1][0]), (ONE,))


class WrongInputs(WrongCase):

    def test_what_is_no_polynomial(self):
        for odd in ODD_POLYNOMIALS:
            for function in BINARY:
                self.check_raises(InvalidPolynomial, odd, function, odd, LESS_ONE)
                self.check_raises(InvalidPolynomial, odd, function, LESS_ONE, odd)
                self.check_raises(InvalidPolynomial, odd, function, polynomial=(), other=odd)
                self.check_raises(InvalidPolynomial, odd, function, other=(), polynomial=odd)
            self.check_raises(InvalidPolynomial, odd, worth, odd, ORIGIN)
            self.check_raises(InvalidPolynomial, odd, worth, point=ORIGIN, polynomial=odd)

    def test_what_is_no_point(self):
        for odd in ODD_POINTS:
            self.check_raises(InvalidPoint, odd, worth, LESS_ONE, odd)
            self.check_raises(InvalidPoint, odd, worth, polynomial=(), point=odd)

    def test_the_first_argument_is_checked_first(self):
        first, second = [ONE], [TWO]
        for function in BINARY:
            self.check_raises(InvalidPolynomial, first, function, first, second)
            self.check_raises(InvalidPolynomial, first, function, other=second, polynomial=first)
        self.check_raises(InvalidPolynomial, first, divided, first, ())
        self.check_raises(InvalidPolynomial, first, worth, first, second)
        self.check_raises(InvalidPolynomial, first, worth, point=None, polynomial=first)

    def test_only_the_divisor_may_not_be_nought(self):
        self.assertEqual([function((), LESS_ONE) for function in BINARY], [LESS_ONE, (), ((), ()), LESS_ONE])
        self.assertEqual([function(LESS_ONE, ()) for function in (plus, times, common)], [LESS_ONE, (), LESS_ONE])
        self.assertEqual([function((), ()) for function in (plus, times, common)], [(), (), ()])
        self.check_raises(InvalidPolynomial, (), divided, (), ())


class Interface(unittest.TestCase):

    def test_names_of_the_parameters(self):
        told = {
            "is_polynomial": ["value"], "plus": ["polynomial", "other"], "times": ["polynomial", "other"],
            "worth": ["polynomial", "point"], "divided": ["polynomial", "other"], "common": ["polynomial", "other"],
        }
        for name, parameters in told.items():
            function = getattr(polys, name)
            self.assertEqual(list(inspect.signature(function).parameters), parameters)
            self.assertEqual(function.__module__, "legsteps.polys")

    def test_the_examples_of_the_document(self):
        self.assertEqual(
            [plus(LESS_ONE, (ONE, (-1, 1))), times(LESS_ONE, MORE_ONE), worth(times(MORE_ONE, MORE_ONE), (NIL, ONE)),
             is_polynomial((ONE, NIL)), is_polynomial(())],
            [(), ((-1, 1), (0, 1), (1, 1)), ((0, 1), (2, 1)), False, True],
        )
        self.assertEqual(
            [divided(((-1, 1), NIL, ONE), LESS_ONE), divided((ONE,), LESS_ONE), common(((-1, 1), NIL, ONE), (TWO, TWO)),
             common((), ())],
            [(((1, 1), (1, 1)), ()), ((), ((1, 1),)), ((1, 1), (1, 1)), ()],
        )


if __name__ == "__main__":
    unittest.main()
