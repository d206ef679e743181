"""Polynomials with whole numbers: tuples, the lowest power first, the last number not 0."""

from math import gcd, lcm

# Those p for which 2 to the power p, less 1, is a prime number, and each is well above the one before it.
PRIME_POWERS = (61, 127, 521, 1279, 4423, 9941, 21701, 44497, 86243, 216091)

# From how many bits on a divisor is taken as a wide one.
WIDE = 8000


def trimmed(numbers, nought):
    """The tuple of the numbers without the noughts at the end."""
    many = len(numbers)
    while many and numbers[many - 1] == nought:
        many -= 1
    return tuple(numbers[:many])


def cleared(polynomial):
    """The pair of whole numbers and of one m above 0: the polynomial's fractions are these numbers by m."""
    parts = 1
    for _, each in polynomial:
        parts = lcm(parts, each)
    return tuple([number * (parts // each) for number, each in polynomial]), parts


def inverse_by_twos(odd, bits):
    """The whole number whose product with the odd one leaves 1 by 2 to the power of the bits, which are 3 or more."""
    known, inverse = 3, odd & 7
    while known < bits:
        # Each time it is right for twice as many bits.
        known = min(2 * known, bits)
        mask = (1 << known) - 1
        inverse = (inverse * (2 - (odd & mask) * inverse)) & mask
    return inverse


def wide_parts(numbers, divisor):
    """The numbers, not all of them 0, divided by the divisor, which divides all of them."""
    twos = (divisor & -divisor).bit_length() - 1
    bits = max([each.bit_length() for each in numbers]) - divisor.bit_length() + 3
    mask = (1 << bits) - 1
    inverse = inverse_by_twos((divisor >> twos) & mask, bits)
    found = []
    for each in numbers:
        part = (((each >> twos) & mask) * inverse) & mask
        found.append(part - mask - 1 if part >> (bits - 1) else part)
    return found


def exact_parts(numbers, divisor):
    """The tuple of the numbers divided by the divisor, which divides all of them."""
    # Python's own way takes time that grows with the square of the length; what is left by powers of 2 does not.
    if divisor.bit_length() < WIDE or not any(numbers):
        return tuple([each // divisor for each in numbers])
    return tuple(wide_parts(numbers, divisor))


def reduced_wholes(numbers):
    """The numbers divided by the greatest whole number that divides all of them."""
    shared = 0
    for each in numbers:
        shared = gcd(shared, each)
    return exact_parts(numbers, shared)


def rest_of(first, second):
    """The rest of the first one times the second's last number, once for each element that the quotient has."""
    rest = list(first)
    lead = second[-1]
    while len(rest) >= len(second):
        top = rest.pop()
        shift = len(rest) + 1 - len(second)
        rest = [each * lead for each in rest]
        for at, each in enumerate(second[:-1]):
            rest[shift + at] -= top * each
    return trimmed(rest, 0)


def exact_quotient(numbers, divisor):
    """The quotient by the divisor if it has whole numbers and nothing is left, otherwise None."""
    rest = list(numbers)
    found = []
    while len(rest) >= len(divisor):
        factor, left = divmod(rest.pop(), divisor[-1])
        if left:
            return None
        found.append(factor)
        shift = len(rest) + 1 - len(divisor)
        for at, each in enumerate(divisor[:-1]):
            rest[shift + at] -= factor * each
    return None if any(rest) else tuple(found[::-1])


def divides(divisor, numbers):
    """Whether the divisor, of reduced numbers, divides the polynomial of the numbers."""
    return exact_quotient(numbers, divisor) is not None


def product_of(numbers, other):
    """The product, as a list; of two that are not nought it has all powers up to the last one of both."""
    found = [0] * (len(numbers) + len(other) - 1)
    for at, each in enumerate(numbers):
        for to, behind in enumerate(other):
            found[at + to] += each * behind
    return found


def inverse_of(number, prime):
    """The whole number from 1 to prime - 1 whose product with the number leaves 1 by the prime."""
    high, low = prime, number % prime
    last, factor = 0, 1
    while low:
        often = high // low
        high, low = low, high - often * low
        last, factor = factor, last - often * factor
    return last % prime


def modulo(numbers, prime):
    """The polynomial of what the numbers leave by the prime."""
    return trimmed([each % prime for each in numbers], 0)


def common_modulo(first, second, prime):
    """The polynomial of the greatest power that divides both, where whole numbers count as what they leave."""
    first, second = modulo(first, prime), modulo(second, prime)
    while second:
        first, second = second, modulo(rest_of(first, second), prime)
    return first


def lifted(numbers, lead, prime):
    """The polynomial of the numbers times one factor, the last one the lead, told next to 0, then reduced."""
    factor = lead * inverse_of(numbers[-1], prime)
    found = []
    for each in numbers:
        left = each * factor % prime
        found.append(left - prime if left > prime // 2 else left)
    return reduced_wholes(found)


def common_by_rests(first, second):
    """The common polynomial by a row of rests, none nought; its numbers are reduced."""
    while second:
        first, second = second, reduced_wholes(rest_of(first, second))
    return first


def common_wholes(first, second, powers=PRIME_POWERS):
    """A polynomial of the greatest power that divides both; the numbers of all three are reduced."""
    # A row of rests has huge numbers even where the answer has small ones, so primes are tried first. A prime that
    # does not divide both last numbers leads to at least as great a power: what then divides both is the answer.
    if not first or not second:
        return first or second
    lead = gcd(first[-1], second[-1])
    for power in powers:
        prime = (1 << power) - 1
        if lead % prime:
            found = lifted(common_modulo(first, second, prime), lead, prime)
            if divides(found, first) and divides(found, second):
                return found
    return common_by_rests(first, second)
