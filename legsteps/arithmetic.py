"""Arithmetic with fractions (n, m), each answer reduced."""

from math import gcd

NOUGHT = (0, 1)


def as_fraction(number, parts):
    """The fraction number / parts; parts are not 0."""
    shared = gcd(number, parts)
    if parts < 0:
        shared = -shared
    return (number // shared, parts // shared)


def sum_of(pairs):
    """The sum of pairs (n, m), each for n / m with m above 0, reduced or not."""
    number, parts = 0, 1
    for each, size in pairs:
        if each == 0:
            continue
        # To reduce the sum once, at its end, costs less than to reduce it at each pair.
        shared = gcd(parts, size)
        number = number * (size // shared) + each * (parts // shared)
        parts = parts // shared * size
    return as_fraction(number, parts)


def raw_product(fraction, other):
    """A pair (n, m) for the product, not reduced, as sum_of takes it."""
    return (fraction[0] * other[0], fraction[1] * other[1])


def quotient_of(fraction, other):
    """The fraction divided by the other one, which is not 0."""
    return as_fraction(fraction[0] * other[1], fraction[1] * other[0])


def power_of(number, often):
    """The whole number times itself, so often, from 0 on; 1 for 0 times, of 0, too."""
    found = 1
    for _ in range(often):
        found = found * number
    return found
