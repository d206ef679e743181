"""The helpers over polynomials with whole numbers."""

import unittest
from random import Random

from legsteps.wholes import (
    PRIME_POWERS, cleared, common_by_rests, common_wholes, divides, exact_parts, inverse_by_twos, inverse_of, modulo,
    reduced_wholes, rest_of, trimmed, wide_parts,
)
from samples import HALF, ONE, TWO, some_polynomials


def product_of(first, second):
    found = [0] * (len(first) + len(second) - 1)
    for at, left in enumerate(first):
        for to, right in enumerate(second):
            found[at + to] += left * right
    return tuple(found)


def with_last_above_0(numbers):
    return numbers if numbers[-1] > 0 else tuple(-each for each in numbers)


class Wholes(unittest.TestCase):

    def test_clearing(self):
        self.assertEqual(cleared((HALF, (-2, 3), ONE)), ((3, -4, 6), 6))
        self.assertEqual(cleared((TWO, ONE)), ((2, 1), 1))
        self.assertEqual(cleared(()), ((), 1))
        self.assertEqual(reduced_wholes((6, 0, -9)), (2, 0, -3))
        self.assertEqual(reduced_wholes(()), ())

    def test_trimming(self):
        self.assertEqual(trimmed([1, 0, 2, 0, 0], 0), (1, 0, 2))
        self.assertEqual(trimmed([0, 0], 0), ())

    def test_rests(self):
        self.assertEqual(rest_of((1, 0, 1), (-1, 1)), (2,))
        self.assertEqual(rest_of((1, 0, 1), (1, 2)), (5,))
        self.assertEqual(rest_of((5, 1), (1, 1, 1)), (5, 1))
        self.assertEqual(rest_of((1, 2, 1), (1, 1)), ())

    def test_dividing(self):
        self.assertTrue(divides((1, 2), product_of((1, 2), (3, 0, 5))))
        self.assertFalse(divides((1, 2), (1, 0, 4)))
        self.assertFalse(divides((1, 2), (1, 3)))
        self.assertFalse(divides((1, 1, 1), (1, 1)))
        self.assertTrue(divides((-1,), (3, 5)))

    def test_exact_parts(self):
        random = Random(71)
        for bits in (1, 2, 3, 60, 7998, 7999, 8000, 8001, 20000):
            for _ in range(12):
                divisor = random.choice((1, -1)) * (random.getrandbits(bits) | 1 << (bits - 1)) << random.choice((0, 0, 1, 70))
                for length in (0, 1, 2, 90, 9000):
                    parts = [random.choice((1, -1)) * random.getrandbits(length + 1) for _ in range(3)] + [0, 1, -1]
                    numbers = [each * divisor for each in parts]
                    self.assertEqual(exact_parts(numbers, divisor), tuple(parts))
                    if bits > 1000:
                        self.assertEqual(wide_parts(numbers, divisor), parts)
                self.assertEqual(exact_parts([0, 0], divisor), (0, 0))
        self.assertEqual(exact_parts((), 0), ())
        great = 3 ** 9000
        self.assertEqual(reduced_wholes((4 * great, 0, -6 * great)), (2, 0, -3))

    def test_inverses_by_twos(self):
        for bits in (3, 4, 5, 7, 64, 1000):
            for odd in (1, -1, 3, 5, 7, 12345, -987654321, 3 ** 500):
                found = inverse_by_twos(odd, bits)
                self.assertEqual(found * odd % 2 ** bits, 1)
                self.assertIn(found, range(2 ** bits))

    def test_inverses(self):
        for prime in (2, 3, 7, 127, (1 << 61) - 1):
            for number in (1, -1, 5, 126, 10 ** 30 + 1):
                if number % prime:
                    self.assertEqual(number * inverse_of(number, prime) % prime, 1)
                    self.assertIn(inverse_of(number, prime), range(1, prime))

    def test_prime_powers(self):
        for power in PRIME_POWERS[:6]:
            prime, left = (1 << power) - 1, 4
            for _ in range(power - 2):
                left = (left * left - 2) % prime
            self.assertEqual(left, 0)
        self.assertEqual(list(PRIME_POWERS), sorted(PRIME_POWERS))

    def test_modulo(self):
        self.assertEqual(modulo((-1, 8, 14), 7), (6, 1))


class Commons(unittest.TestCase):

    def check(self, first, second, told):
        for found in (common_wholes(first, second), common_by_rests(first, second), common_wholes(first, second, ()),
                      common_wholes(second, first, (2, 3, 5, 7, 13, 17, 19, 31))):
            self.assertEqual(with_last_above_0(found), with_last_above_0(told))

    def test_one_nought(self):
        self.assertEqual(common_wholes((), (2, 3)), (2, 3))
        self.assertEqual(common_wholes((2, 3), ()), (2, 3))
        self.assertEqual(common_wholes((), ()), ())

    def test_primes_that_lead_astray(self):
        prime = (1 << 61) - 1
        # Both last numbers are left out by the prime; both polynomials are alike by it; one loses its highest power.
        self.check((1, prime), (2, prime), (1,))
        self.check((1, prime), product_of((1, prime), (1, 1)), (1, prime))
        self.check((1, 1), (1 + prime, 1), (1,))
        self.check((1, 2, 1), (1 + prime, 2, 1), (1,))
        self.check((1, 1), (1, 1, prime), (1,))
        self.check(product_of((3, 1), (1, 2)), product_of((3, 1), (1 + prime, 2)), (3, 1))

    def test_ways_agree(self):
        rows = [reduced_wholes(cleared(each)[0]) for each in some_polynomials(40, greatest=3, powers=4) if each]
        for first in rows:
            for second in rows[:12]:
                for third in rows[:4]:
                    left, right = reduced_wholes(product_of(first, third)), reduced_wholes(product_of(second, third))
                    self.check(left, right, common_by_rests(left, right))

    def test_great_answers(self):
        for power in (20, 300, 3000, 9000):
            third = (3 ** power + 2, -7, 5 ** power)
            self.assertEqual(common_wholes(product_of(third, (1, 3)), product_of((2, 1), third)), third)


if __name__ == "__main__":
    unittest.main()
