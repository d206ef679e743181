"""Pairs of rules: a guess and its corrections, and what they make of one number q.

A complex number is a pair of whole numbers here.
"""

from math import gcd

from legsteps.arithmetic import NOUGHT, as_fraction
from legsteps.circle import circle_counts, is_within
from legsteps.errors import NotExplicit, TooManySteps, UnlikeSteps
from legsteps.lines import near_gaps
from legsteps.numbers import check_number, check_point
from legsteps.rims import rim_worth, rims_through
from legsteps.rules import check_rule, order_of, whole_rule
from legsteps.spots import tested, whole_point, word_of


def check_parts(rule, other, corrections):
    """Raise the errors of what are no rules, and of what is no number of corrections."""
    check_rule(rule)
    check_rule(other)
    check_number(corrections, 1, 6)


def check_pair(rule, other):
    """Raise UnlikeSteps if the rules have not as many steps, NotExplicit if the first one is not explicit."""
    if len(rule[0]) != len(other[0]):
        raise UnlikeSteps()
    if rule[1][-1] != NOUGHT:
        raise NotExplicit()


def check_pair_at(rule, other, corrections, point):
    """Raise the errors of what is no pair, no number of corrections or no point."""
    check_parts(rule, other, corrections)
    check_point(point)
    check_pair(rule, other)


def product_by(one, other):
    """The product of two complex numbers."""
    return (one[0] * other[0] - one[1] * other[1], one[0] * other[1] + one[1] * other[0])


def joined(one, other, factor, weight):
    """The one times the factor, and the other one times the weight, added."""
    left, right = product_by(one, factor), product_by(other, weight)
    return (left[0] + right[0], left[1] + right[1])


def weights_of(other, corrections, point):
    """What the test polynomials of the correction and of the guess are multiplied by to make up the pair's polynomial.

    That is 1 + s + .. + s to the power m - 1, m being the corrections, and s to the power m, without denominators. The
    first one lacks the last number of the guess's test polynomial.
    """
    across, along, parts = whole_point(point)
    first, second = whole_rule(other)
    shared = gcd(first[-1], second[-1])
    # s is the turn by the lead.
    lead, slope = (parts * (first[-1] // shared), 0), second[-1] // shared
    turn = (across * slope, along * slope)
    total, power = (0, 0), (1, 0)
    for _ in range(corrections):
        total = joined(total, power, lead, (1, 0))
        power = product_by(power, turn)
    return total, (shared * power[0], shared * power[1])


def pair_rows(rule, other, corrections, point):
    """The numbers of the pair's polynomial as rows of reals and turns, times one whole number, which is the last one.

    For whole numbers as points this one is the same at all of them.
    """
    total, power = weights_of(other, corrections, point)
    ahead, spun = tested(rule, point)
    reals, turns = tested(other, point)
    # The guess is explicit: its last number is real.
    total = (ahead[-1] * total[0], ahead[-1] * total[1])
    guesses, later = list(zip(ahead, spun)), list(zip(reals, turns))
    # What the last numbers of both add up to is just the one that all are multiplied by.
    found = [joined(each, guess, total, power) for each, guess in zip(later, guesses)]
    return [real for real, _ in found], [turn for _, turn in found]


def pair_polynomial(rule, other, corrections, point):
    """The numbers of the pair's polynomial, points, the lowest power first."""
    check_pair_at(rule, other, corrections, point)
    reals, turns = pair_rows(rule, other, corrections, point)
    lead = reals[-1]
    return tuple([(as_fraction(real, lead), as_fraction(turn, lead)) for real, turn in zip(reals, turns)])


def counts_at(rule, other, corrections, point):
    """What circle_counts tells of the pair's polynomial."""
    reals, turns = pair_rows(rule, other, corrections, point)
    return circle_counts(reals, turns)


def pair_counts(rule, other, corrections, point):
    """How many roots of the pair's polynomial lie inside, on and outside the circle, each as often as it is one."""
    check_pair_at(rule, other, corrections, point)
    return counts_at(rule, other, corrections, point)[:3]


def pair_word(rule, other, corrections, point):
    """Whether the point is damped or kept by the pair, or the pair grows at it."""
    check_pair_at(rule, other, corrections, point)
    return word_of(counts_at(rule, other, corrections, point))


def pair_order(rule, other, corrections):
    """The order of the pair, -1 or above."""
    check_parts(rule, other, corrections)
    check_pair(rule, other)
    order = order_of(other)
    return order if other[1][-1] == NOUGHT else min(order, order_of(rule) + corrections)


def is_damped_at(rule, other, corrections, place):
    """Whether the pair damps the real number of the place."""
    number, parts = place
    return is_within(counts_at(rule, other, corrections, (as_fraction(number, parts), NOUGHT)))


def pair_rims(rule, other, corrections):
    """A polynomial at whose real roots the pair damps nothing, and in each gap between them all, or none."""
    # Each number of the pair's polynomial has q to the power of the corrections and 1 at most, and the worth has as
    # many factors of that kind as the rules have numbers.
    many = (corrections + 1) * len(rule[0]) + 1
    return rims_through([
        rim_worth(pair_rows(rule, other, corrections, ((number, 1), NOUGHT))[0]) for number in range(many)
    ])


def pair_stretches(rule, other, corrections, many):
    """The pairs of ends of the stretches of damped real numbers, ascending, each end near, None for no end."""
    check_parts(rule, other, corrections)
    check_number(many, 1, 10 ** 12)
    check_pair(rule, other)
    if len(rule[0]) > 5:
        raise TooManySteps()
    gaps = near_gaps(pair_rims(rule, other, corrections), many)
    return tuple([ends for place, ends in gaps if is_damped_at(rule, other, corrections, place)])
