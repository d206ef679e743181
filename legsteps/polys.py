"""Polynomials with fractions: tuples, the lowest power first, the last number not (0, 1)."""

from math import lcm

from legsteps.arithmetic import NOUGHT, as_fraction, quotient_of, raw_product, sum_of
from legsteps.errors import InvalidPolynomial
from legsteps.numbers import are_fractions, check_point
from legsteps.wholes import cleared, common_wholes, reduced_wholes, trimmed


def is_polynomial(value):
    """Whether the value is a tuple of fractions that does not end with (0, 1)."""
    return are_fractions(value) and (not value or value[-1] != NOUGHT)


def check_polynomial(polynomial):
    """Raise InvalidPolynomial for what is no polynomial."""
    if not is_polynomial(polynomial):
        raise InvalidPolynomial(polynomial)


def check_not_nought(polynomial):
    """Raise InvalidPolynomial for what is no polynomial, and for the nought one."""
    check_polynomial(polynomial)
    if not polynomial:
        raise InvalidPolynomial(polynomial)


def plus(polynomial, other):
    """The sum of both."""
    check_polynomial(polynomial)
    check_polynomial(other)
    shorter, longer = sorted([polynomial, other], key=len)
    summed = [sum_of(pair) for pair in zip(shorter, longer)]
    return trimmed(summed + list(longer[len(shorter):]), NOUGHT)


def times(polynomial, other):
    """The product of both."""
    check_polynomial(polynomial)
    check_polynomial(other)
    if not polynomial or not other:
        return ()
    return product_row(polynomial, other)


def product_row(row, other):
    """The numbers of the product of two rows that are not empty, noughts at the end, too."""
    return tuple([product_at(row, other, power) for power in range(len(row) + len(other) - 1)])


def product_at(polynomial, other, power):
    """The number of this power in the product of both."""
    first = max(0, power - len(other) + 1)
    last = min(power, len(polynomial) - 1)
    return sum_of([raw_product(polynomial[at], other[power - at]) for at in range(first, last + 1)])


def worth(polynomial, point):
    """The point that the polynomial tells for this point."""
    check_polynomial(polynomial)
    check_point(point)
    (across, width), (along, height) = point
    parts = lcm(width, height)
    across, along = across * (parts // width), along * (parts // height)
    numbers, divisor = cleared(polynomial)
    real, turned, scale = 0, 0, 1
    for number in reversed(numbers):
        scale = scale * parts
        real, turned = real * across - turned * along + number * scale, real * along + turned * across
    return (as_fraction(real, divisor * scale), as_fraction(turned, divisor * scale))


def divided(polynomial, other):
    """The pair of the quotient and of the rest by the other one, which is not nought."""
    check_polynomial(polynomial)
    check_not_nought(other)
    lead = len(other) - 1
    quotient = [NOUGHT] * max(0, len(polynomial) - lead)
    for at in reversed(range(len(quotient))):
        quotient[at] = quotient_of(left_at(polynomial, quotient, other, at + lead), other[lead])
    rest = [left_at(polynomial, quotient, other, power) for power in range(min(len(polynomial), lead))]
    return (tuple(quotient), trimmed(rest, NOUGHT))


def left_at(polynomial, quotient, other, power):
    """The number of this power in the polynomial less the product of the quotient and the other one."""
    number, parts = product_at(quotient, other, power)
    return sum_of([polynomial[power], (-number, parts)])


def common(polynomial, other):
    """The polynomial of the greatest power that divides both, its last number 1; () for two nought ones."""
    check_polynomial(polynomial)
    check_polynomial(other)
    numbers = common_wholes(reduced_wholes(cleared(polynomial)[0]), reduced_wholes(cleared(other)[0]))
    return tuple([as_fraction(each, numbers[-1]) for each in numbers])
