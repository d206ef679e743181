"""Whether a rule damps all numbers on the left, or all in a wedge, and which ones it does not."""

from math import isqrt

from legsteps.arithmetic import NOUGHT, as_fraction, raw_product, sum_of
from legsteps.circle import laid_on_line, shifted
from legsteps.lines import gap_places, root_spans, single_roots, told_at, with_nought
from legsteps.numbers import check_number, check_slope
from legsteps.reals import damps_at
from legsteps.rules import check_rule, whole_rule
from legsteps.wholes import product_of, trimmed

LEFT_ONE = ((-1, 1), (0, 1))
# As if it were a slope above all fractions: its wedge is all that lies on the left.
STEEPEST = (1, 0)


def wave_number(rule, apart, sign):
    """The sum of all a times the b that stands so far below it, and of sign times all a times the b so far above it."""
    first, second = rule
    pairs = [raw_product(value, slope) for value, slope in zip(first[apart:], second)]
    if apart > 0:
        for value, slope in zip(first, second[apart:]):
            number, parts = raw_product(value, slope)
            pairs.append((sign * number, parts))
    return sum_of(pairs)


def real_wave(rule):
    """r_0 to r_k, noughts at the end left out."""
    check_rule(rule)
    return trimmed([wave_number(rule, apart, 1) for apart in range(len(rule[0]))], NOUGHT)


def side_wave(rule):
    """s_1 to s_k, noughts at the end left out."""
    check_rule(rule)
    return trimmed([wave_number(rule, apart, -1) for apart in range(1, len(rule[0]))], NOUGHT)


def laid_waves(rule):
    """The real wave, the side wave and the square of the second polynomial's size, as rows of numbers in u.

    The turn is at (1 + i u) / (1 - i u). All three are multiplied by the same number above 0, and have the same length.
    """
    first, second = whole_rule(rule)
    nought = [0] * len(first)
    laid, turned = laid_on_line(shifted(first, -1), nought)
    below, spun = laid_on_line(shifted(second, -1), nought)
    real = [one + other for one, other in zip(product_of(laid, below), product_of(turned, spun))]
    side = [one - other for one, other in zip(product_of(turned, below), product_of(laid, spun))]
    size = [one + other for one, other in zip(product_of(below, below), product_of(spun, spun))]
    return real, side, size


def edge_of(waves, slope):
    """The square of the slope times that of the real wave, less the square of the side wave, in v, the square of u."""
    # The real wave has even powers of u alone, the side wave odd ones.
    real, side = waves[0][::2], waves[1][1::2]
    high, wide = slope[0] * slope[0], slope[1] * slope[1]
    above, below = product_of(real, real), [0] + product_of(side, side) + [0]
    return trimmed([high * one - wide * other for one, other in zip(above, below)], 0)


def is_low(waves, edge, place):
    """Whether at v the real wave is below 0 and the edge above 0: so the turn has its point in the wedge."""
    return told_at(waves[0][::2], place) < 0 and told_at(edge, place) > 0


def low_place(waves, edge):
    """A place v above 0 whose turn has its point in the wedge; None if there is none."""
    if not edge:
        return None
    for place in gap_places(root_spans(with_nought(single_roots(edge)))):
        if place[0] > 0 and is_low(waves, edge, place):
            return place
    return None


def low_point(waves, edge, place):
    """The point, in the wedge, of a turn with fractions that is near enough to that of v."""
    number, parts = place
    scale = 1
    while True:
        root = isqrt(number * scale * scale // parts)
        if root > 0 and is_low(waves, edge, (root * root, scale * scale)):
            real, side, size = [told_at(each, (root, scale)) for each in waves]
            return (as_fraction(real, size), as_fraction(side, size))
        scale = scale * 2


def undamped_point(rule, slope):
    """Any point of the wedge that the rule does not damp, None if there is none."""
    if not damps_at(rule, (-1, 1)):
        return LEFT_ONE
    waves = laid_waves(rule)
    edge = edge_of(waves, slope)
    place = low_place(waves, edge)
    return None if place is None else low_point(waves, edge, place)


def is_safe(rule):
    """Whether the rule damps all points with a real part below 0."""
    check_rule(rule)
    return undamped_point(rule, STEEPEST) is None


def unsafe_point(rule):
    """Any point with a real part below 0 that the rule does not damp, None if it is safe."""
    check_rule(rule)
    return undamped_point(rule, STEEPEST)


def is_safe_in(rule, slope):
    """Whether the rule damps all points of the wedge."""
    check_rule(rule)
    check_slope(slope)
    return undamped_point(rule, slope) is None


def unsafe_point_in(rule, slope):
    """Any point of the wedge that the rule does not damp, None if it is safe in it."""
    check_rule(rule)
    check_slope(slope)
    return undamped_point(rule, slope)


def slope_near(rule, many):
    """The greatest whole number n such that the rule is safe in the wedge of n / many; None if it is safe."""
    check_rule(rule)
    check_number(many, 1, 10 ** 12)
    if is_safe(rule):
        return None
    if not damps_at(rule, (-1, 1)):
        return 0
    waves = laid_waves(rule)
    low, high = 0, 1
    while low_place(waves, edge_of(waves, (high, many))) is None:
        low, high = high, 2 * high
    while high - low > 1:
        mark = (low + high) // 2
        if low_place(waves, edge_of(waves, (mark, many))) is None:
            low = mark
        else:
            high = mark
    return low
