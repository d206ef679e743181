"""Whether a rule damps all numbers on the left, or all in a wedge, and which ones it does not."""

from legsteps.arithmetic import NOUGHT, raw_product, sum_of
from legsteps.numbers import check_number, check_slope
from legsteps.reals import damps_at
from legsteps.rules import check_rule
from legsteps.wedges import edge_of, greatest_clear, laid_waves, low_place, low_point
from legsteps.wholes import trimmed

LEFT_ONE = ((-1, 1), (0, 1))
# As if it were a slope above all fractions: its wedge is all that lies on the left.
STEEPEST = (1, 0)


def wave_number(rule, apart, sign):
    """The sum of all a times the b that stands so far below it, and of sign times all a times the b so far above it."""
    first, second = rule
    pairs = [raw_product(value, slope) for value, slope in zip(first[apart:], second)]
    if apart > 0:
        for value, slope in zip(first, second[apart:]):
            number, parts = raw_product(value, slope)
            pairs.append((sign * number, parts))
    return sum_of(pairs)


def real_wave(rule):
    """r_0 to r_k, noughts at the end left out."""
    check_rule(rule)
    return trimmed([wave_number(rule, apart, 1) for apart in range(len(rule[0]))], NOUGHT)


def side_wave(rule):
    """s_1 to s_k, noughts at the end left out."""
    check_rule(rule)
    return trimmed([wave_number(rule, apart, -1) for apart in range(1, len(rule[0]))], NOUGHT)


def undamped_point(rule, slope):
    """Any point of the wedge that the rule does not damp, None if there is none."""
    if not damps_at(rule, (-1, 1)):
        return LEFT_ONE
    waves = laid_waves(rule)
    edge = edge_of(waves, slope)
    place = low_place(waves, edge)
    return None if place is None else low_point(waves, edge, place)


def is_safe(rule):
    """Whether the rule damps all points with a real part below 0."""
    check_rule(rule)
    return undamped_point(rule, STEEPEST) is None


def unsafe_point(rule):
    """Any point with a real part below 0 that the rule does not damp, None if it is safe."""
    check_rule(rule)
    return undamped_point(rule, STEEPEST)


def is_safe_in(rule, slope):
    """Whether the rule damps all points of the wedge."""
    check_rule(rule)
    check_slope(slope)
    return undamped_point(rule, slope) is None


def unsafe_point_in(rule, slope):
    """Any point of the wedge that the rule does not damp, None if it is safe in it."""
    check_rule(rule)
    check_slope(slope)
    return undamped_point(rule, slope)


def slope_near(rule, many):
    """The greatest whole number n such that the rule is safe in the wedge of n / many; None if it is safe."""
    check_rule(rule)
    check_number(many, 1, 10 ** 12)
    if is_safe(rule):
        return None
    if not damps_at(rule, (-1, 1)):
        return 0
    return greatest_clear(laid_waves(rule), many)
