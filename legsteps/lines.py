"""Real roots of polynomials with whole numbers, each one told by a span, and the gaps between them.

A place is a pair (n, m) of whole numbers for n / m, m above 0, reduced or not. A span is a pair of places (low, high):
just one root is above low and not above high, and low itself is no root. The polynomials have single roots, but for
single_roots.
"""

from legsteps.arithmetic import as_fraction
from legsteps.chains import changes_of, slopes_of
from legsteps.circle import shifted
from legsteps.wholes import common_wholes, exact_quotient, reduced_wholes


def single_roots(numbers):
    """The polynomial with the same roots, each of them once; the given one is not nought."""
    numbers = reduced_wholes(numbers)
    return exact_quotient(numbers, common_wholes(numbers, reduced_wholes(slopes_of(numbers))))


def with_nought(numbers):
    """The polynomial with the same roots and with the root 0."""
    return numbers if numbers[0] == 0 else (0, *numbers)


def told_at(numbers, place):
    """What the polynomial tells at the place, times a number above 0: m to the power of the degree."""
    number, parts = place
    found, scale = 0, 1
    for each in reversed(numbers):
        found = found * number + each * scale
        scale = scale * parts
    return found


def widened(numbers, many):
    """The polynomial whose roots are so many times those of this one; many is not 0."""
    found, scale = [], 1
    for each in reversed(numbers):
        found.append(each * scale)
        scale = scale * many
    return found[::-1]


def laid_between(numbers, low, high):
    """The polynomial that tells at u, times a number above 0, what this one tells at low + u * (high - low)."""
    parts = max(low[1], high[1])
    start = low[0] * (parts // low[1])
    width = high[0] * (parts // high[1]) - start
    return widened(shifted(widened(numbers, parts), start)[::-1], width)[::-1]


def halves_of(laid):
    """The same for the half next to low, and for that next to high."""
    lower = widened(laid, 2)
    return lower, shifted(lower, 1)


def most_inside(laid):
    """As many as there are roots between 0 and 1, or two more, or four, and so on: so 0 and 1 tell just as many.

    That is how often the sign changes along the numbers of the polynomial in t that tells at t, times a number above 0
    if t is above 0, what this one tells at 1 / (1 + t) (Descartes; Vincent; Collins and Akritas).
    """
    return changes_of(shifted(laid[::-1], 1))


def power_of_two(power):
    """The place of 2 to this power, below 0, too."""
    return (1 << power, 1) if power >= 0 else (1, 1 << -power)


def outer_bound(numbers):
    """A power of 2 that is above all roots, and less than which is below them."""
    most = max([each.bit_length() for each in numbers])
    return power_of_two(most - numbers[-1].bit_length() + 2)


def inner_bound(numbers):
    """A power of 2 below the size of all roots but 0."""
    most = max([each.bit_length() for each in numbers])
    return power_of_two(numbers[0].bit_length() - most - 2)


def mean_of(low, high):
    """The place halfway between two places whose m are powers of 2."""
    parts = max(low[1], high[1])
    return (low[0] * (parts // low[1]) + high[0] * (parts // high[1]), 2 * parts)


def middle(low, high, inner):
    """A place between two places, both from 0 on or both up to 0, whose m are powers of 2.

    Far from one another they are parted by their powers of 2, so that roots near 0 and great ones are soon found.
    """
    if low[0] < 0:
        number, parts = middle((-high[0], high[1]), (-low[0], low[1]), inner)
        return (-number, parts)
    if low[0] == 0:
        return inner
    near, far = [number.bit_length() - parts.bit_length() for number, parts in (low, high)]
    return mean_of(low, high) if far - near < 2 else power_of_two((near + far + 1) // 2)


def root_spans(numbers):
    """The spans of all real roots, ascending, those ahead up to the low place of those behind."""
    far, inner = outer_bound(numbers), inner_bound(numbers)
    below = (-far[0], far[1])
    todo = [((0, 1), far, laid_between(numbers, (0, 1), far)), (below, (0, 1), laid_between(numbers, below, (0, 1)))]
    found = []
    while todo:
        low, high, laid = todo.pop()
        most = most_inside(laid)
        if sum(laid) == 0:
            # Then high is a root.
            most += 1
        if most == 1 and laid[0] != 0:
            found.append((low, high))
        elif most > 0:
            place = middle(low, high, inner)
            if place == mean_of(low, high):
                lower, upper = halves_of(laid)
            else:
                lower, upper = laid_between(numbers, low, place), laid_between(numbers, place, high)
            todo.append((place, high, upper))
            todo.append((low, place, lower))
    return found


def halved(numbers, span):
    """A span of the same root, half as wide."""
    low, high = span
    place = mean_of(low, high)
    return (low, place) if has_root_in(numbers, (low, place)) else (place, high)


def is_ahead(span, other):
    """Whether all of the span lies below the low place of the other one."""
    (number, parts), (low, below) = span[1], other[0]
    return number * below < low * parts


def joined_spans(numbers, other):
    """The spans of the roots of two polynomials that have none in common, as those of the product."""
    first, second = root_spans(numbers)[::-1], root_spans(other)[::-1]
    found = []
    # To part roots that are next to one another by a polynomial for each costs less than to do so by their product.
    while first and second:
        if is_ahead(first[-1], second[-1]):
            found.append(first.pop())
        elif is_ahead(second[-1], first[-1]):
            found.append(second.pop())
        else:
            first[-1], second[-1] = halved(numbers, first[-1]), halved(other, second[-1])
    return found + first[::-1] + second[::-1]


def gap_places(spans):
    """A place in each gap: below the first root, between each two neighbours, above the last one."""
    if not spans:
        return [(0, 1)]
    number, parts = spans[-1][1]
    return [low for low, _ in spans] + [(number + parts, parts)]


def has_root_in(numbers, span):
    """Whether the polynomial, which has one root there at most, has one in the span."""
    below, above = told_at(numbers, span[0]), told_at(numbers, span[1])
    return above == 0 or (below > 0) != (above > 0)


def whole_below(numbers, low, high, is_above):
    """The greatest whole number that is not above the root; low is not above it, high is.

    Between low and high the worths are above 0 up to the root and below 0 behind it, or the other way round.
    """
    parts = 2
    while high - low > 1:
        # The straight line tells where the root is near; the better it told, the less is looked at around that place.
        left, right = abs(told_at(numbers, (low, 1))), abs(told_at(numbers, (high, 1)))
        guess = low + (high - low) * left // max(1, left + right)
        around = max(1, (high - low) // parts)
        for mark in (guess - around, guess + around, (low + high) // 2):
            if low < mark < high:
                worth = told_at(numbers, (mark, 1))
                if worth == 0 or (worth > 0) == is_above:
                    low = mark
                else:
                    high = mark
        parts = parts * parts if high - low <= 2 * around else 2
    return low


def near_root(numbers, span, many):
    """The pair of the greatest whole number n such that n / many is not above the root, and whether it is the root."""
    (low, below), (high, above) = span
    wide = widened(numbers, many)
    least = low * many // below
    found = whole_below(wide, least, high * many // above + 1, told_at(numbers, span[0]) > 0)
    return (found, found > least and told_at(wide, (found, 1)) == 0)


def near_gaps(numbers, many):
    """A place in each gap, and the gap's ends, near for this number, None for no end."""
    spans = root_spans(numbers)
    ends = [None] + [near_root(numbers, span, many) for span in spans] + [None]
    return [(place, (ends[at], ends[at + 1])) for at, place in enumerate(gap_places(spans))]


def fraction_root(numbers, span):
    """The root in the span if it is a fraction, otherwise None."""
    # Its m divides the last number.
    many = abs(numbers[-1])
    found, is_just = near_root(numbers, span, many)
    return as_fraction(found, many) if is_just else None
