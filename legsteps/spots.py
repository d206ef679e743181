"""What a rule makes of one number q: the roots of its test polynomial there, and far away."""

from math import lcm

from legsteps.circle import circle_counts, is_bounded, is_within
from legsteps.errors import LostStep
from legsteps.numbers import check_point
from legsteps.roots import counts_of
from legsteps.rules import check_rule, second_of, whole_rule


def whole_point(point):
    """Whole numbers x, y and parts above 0: the point is x + i y by the parts."""
    (across, width), (along, height) = point
    parts = lcm(width, height)
    return across * (parts // width), along * (parts // height), parts


def tested(rule, point):
    """The numbers of the test polynomial up to the power k, as rows of reals and turns, times one number above 0."""
    across, along, parts = whole_point(point)
    first, second = whole_rule(rule)
    reals = [parts * value - across * slope for value, slope in zip(first, second)]
    return reals, [-along * slope for slope in second]


def is_lost(reals, turns):
    """Whether the step is lost where these are the numbers of the test polynomial."""
    return reals[-1] == 0 and turns[-1] == 0


def word_of(counts):
    """The word for these counts of the circle."""
    if is_within(counts):
        return "damped"
    return "kept" if is_bounded(counts) else "grows"


def point_word(rule, point):
    """Whether the step is lost at the point, or it is damped or kept, or the rule grows at it."""
    check_rule(rule)
    check_point(point)
    reals, turns = tested(rule, point)
    return "lost" if is_lost(reals, turns) else word_of(circle_counts(reals, turns))


def point_counts(rule, point):
    """How many roots of the test polynomial lie inside, on and outside the circle, each as often as it is one."""
    check_rule(rule)
    check_point(point)
    reals, turns = tested(rule, point)
    if is_lost(reals, turns):
        raise LostStep()
    return circle_counts(reals, turns)[:3]


def far_word(rule):
    """The word for q beyond all bounds; `none` if the second polynomial is nought."""
    check_rule(rule)
    second = second_of(rule)
    if not second:
        return "none"
    if len(second) < len(rule[1]):
        return "grows"
    if not any([number for number, _ in second[:-1]]):
        return "fades"
    return word_of(counts_of(second))
