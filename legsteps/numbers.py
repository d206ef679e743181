"""Whole numbers, fractions (n, m) and points (x, y): which values are ones."""

from math import gcd

from legsteps.errors import InvalidFraction, InvalidNumber, InvalidPoint, InvalidRatio, InvalidSize, InvalidSlope


def is_whole(value):
    """Whether the value is a whole number; True and False are none."""
    return isinstance(value, int) and not isinstance(value, bool)


def is_fraction(value):
    """Whether the value is a reduced pair of whole numbers, the second one above 0."""
    if not isinstance(value, tuple) or len(value) != 2:
        return False
    number, parts = value
    if not is_whole(number) or not is_whole(parts):
        return False
    return parts > 0 and gcd(number, parts) == 1


def is_above_0(value):
    """Whether the value is a fraction above 0."""
    return is_fraction(value) and value[0] > 0


def are_fractions(value):
    """Whether the value is a tuple of fractions, as many as may be."""
    return isinstance(value, tuple) and all([is_fraction(each) for each in value])


def is_point(value):
    """Whether the value is a pair of fractions."""
    if not isinstance(value, tuple) or len(value) != 2:
        return False
    return is_fraction(value[0]) and is_fraction(value[1])


def check_fraction(fraction):
    """Raise InvalidFraction for what is no fraction."""
    if not is_fraction(fraction):
        raise InvalidFraction(fraction)


def check_point(point):
    """Raise InvalidPoint for what is no point."""
    if not is_point(point):
        raise InvalidPoint(point)


def check_number(number, least, greatest):
    """Raise InvalidNumber for what is no whole number from the least to the greatest one."""
    if not is_whole(number) or number < least or number > greatest:
        raise InvalidNumber(number)


def check_slope(slope):
    """Raise InvalidSlope for what is no fraction above 0."""
    if not is_above_0(slope):
        raise InvalidSlope(slope)


def check_ratio(ratio):
    """Raise InvalidRatio for what is no fraction above 0."""
    if not is_above_0(ratio):
        raise InvalidRatio(ratio)


def check_size(size):
    """Raise InvalidSize for what is no fraction above 0."""
    if not is_above_0(size):
        raise InvalidSize(size)
