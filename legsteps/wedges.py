"""The waves of a rule along all turns, and the turns whose points lie in a wedge on the left.

A turn is told by u, as the point (1 + i u) / (1 - i u) of the circle, or by v, the square of u: what the turns of u and
- u make is conjugate.
"""

from math import isqrt

from legsteps.arithmetic import as_fraction
from legsteps.circle import laid_on_line, shifted
from legsteps.lines import (
    gap_places, has_root_in, joined_spans, near_root, root_spans, single_roots, told_at, with_nought,
)
from legsteps.rules import whole_rule
from legsteps.wholes import common_wholes, exact_quotient, product_of, trimmed


def laid_waves(rule):
    """The real wave, the side wave and the square of the second polynomial's size, as rows of numbers in u.

    All three are multiplied by the same number above 0, and have the same length.
    """
    first, second = whole_rule(rule)
    nought = [0] * len(first)
    laid, turned = laid_on_line(shifted(first, -1), nought)
    below, spun = laid_on_line(shifted(second, -1), nought)
    real = [one + other for one, other in zip(product_of(laid, below), product_of(turned, spun))]
    side = [one - other for one, other in zip(product_of(turned, below), product_of(laid, spun))]
    size = [one + other for one, other in zip(product_of(below, below), product_of(spun, spun))]
    return real, side, size


def in_squares(waves):
    """The real wave, and the side wave over u, as rows of numbers in v."""
    # The real wave has even powers of u alone, the side wave odd ones.
    return waves[0][::2], waves[1][1::2]


def edge_of(waves, slope):
    """The square of the slope times that of the real wave, less the square of the side wave, in v."""
    real, side = in_squares(waves)
    high, wide = slope[0] * slope[0], slope[1] * slope[1]
    above, below = product_of(real, real), [0] + product_of(side, side) + [0]
    return trimmed([high * one - wide * other for one, other in zip(above, below)], 0)


def is_low(waves, edge, place):
    """Whether at v the real wave is below 0 and the edge above 0: so the turn has its point in the wedge."""
    return told_at(in_squares(waves)[0], place) < 0 and told_at(edge, place) > 0


def low_place(waves, edge):
    """A place v above 0 whose turn has its point in the wedge; None if there is none."""
    if not edge:
        return None
    for place in gap_places(root_spans(with_nought(single_roots(edge)))):
        if place[0] > 0 and is_low(waves, edge, place):
            return place
    return None


def low_point(waves, edge, place):
    """The point, in the wedge, of a turn with fractions that is near enough to that of v."""
    number, parts = place
    scale = 1
    while True:
        root = isqrt(number * scale * scale // parts)
        if root > 0 and is_low(waves, edge, (root * root, scale * scale)):
            real, side, size = [told_at(each, (root, scale)) for each in waves]
            return (as_fraction(real, size), as_fraction(side, size))
        scale = scale * 2


def is_clear(waves, number, many):
    """Whether no turn has its point in the wedge of number / many; so it is for 0."""
    return number == 0 or low_place(waves, edge_of(waves, (number, many))) is None


def steady_numbers(waves):
    """A polynomial in v that is 0 where the side wave by the real wave neither grows nor falls."""
    real, side = in_squares(waves)
    grown = product_of([(2 * at + 1) * each for at, each in enumerate(side)], real)
    fallen = product_of(side, [2 * at * each for at, each in enumerate(real)])
    return trimmed([one - other for one, other in zip(grown, fallen)], 0)


def slope_at(waves, many, place):
    """The greatest whole number n such that the point of v is not within n / many; None if it is not on the left."""
    real, side = [told_at(each, place) for each in in_squares(waves)]
    if real >= 0 or place[0] <= 0:
        return None
    return isqrt(many * many * place[0] * place[1] * side * side // (real * real))


def slope_next_to(waves, many, numbers, span):
    """What slope_at tells at the root in the span, most likely; None if it could not be seen."""
    number, parts = span[1]
    bits, guess = 64, None
    while bits < 20000:
        scale = max(1, (parts << bits) // number)
        told = slope_at(waves, many, (near_root(numbers, span, scale)[0], scale))
        if told is not None and told == guess:
            return told
        bits, guess = 2 * bits, told
    return guess


def likely_slope(waves, many):
    """Most likely the greatest whole number n such that the wedge of n / many is clear, where there is one."""
    real, numbers = trimmed(in_squares(waves)[0], 0), steady_numbers(waves)
    if not numbers:
        return 0
    lone, numbers = single_roots(real), single_roots(numbers)
    numbers = exact_quotient(numbers, common_wholes(numbers, lone))
    found = []
    for span in joined_spans(lone, numbers):
        # The real wave has no root in the span of another one: so it is below 0 all along it, or nowhere.
        if span[1][0] > 0 and has_root_in(numbers, span) and told_at(real, span[1]) < 0:
            found.append(slope_next_to(waves, many, numbers, span))
    return min([each for each in found if each is not None], default=0)


def greatest_clear(waves, many):
    """The greatest whole number n such that the wedge of n / many is clear, where there is one."""
    # Next to the turns (1, 0) and (-1, 0) points may come near the line, where no steady place tells it.
    return greatest_from(waves, many, likely_slope(waves, many)) if is_clear(waves, 1, many) else 0


def greatest_from(waves, many, guess):
    """What greatest_clear tells, if the guess is right or not, but sooner the nearer it is."""
    low, high, step = guess, guess + 1, 1
    while not is_clear(waves, low, many):
        low, high, step = max(0, low - step), low, 2 * step
    while is_clear(waves, high, many):
        low, high, step = high, high + step, 2 * step
    while high - low > 1:
        mark = (low + high) // 2
        if is_clear(waves, mark, many):
            low = mark
        else:
            high = mark
    return low
