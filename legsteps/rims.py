"""The real numbers at which a root of the test polynomial reaches the circle, as roots of one polynomial (Jury)."""

from legsteps.lines import single_roots
from legsteps.rules import whole_rule
from legsteps.wholes import trimmed


def determinant(rows):
    """The determinant of a table of whole numbers."""
    rows = [list(row) for row in rows]
    sign, before = 1, 1
    for at in range(len(rows)):
        held = [to for to in range(at, len(rows)) if rows[to][at] != 0]
        if not held:
            return 0
        if held[0] != at:
            rows[at], rows[held[0]] = rows[held[0]], rows[at]
            sign = -sign
        top = rows[at]
        for row in rows[at + 1:]:
            lead = row[at]
            for to in range(at, len(rows)):
                row[to] = (top[at] * row[to] - lead * top[to]) // before
        before = top[at]
    return sign * before


def pairs_product(numbers):
    """The product of 1 - r * s for each two roots r, s, times a power of the last number: the degree less 1."""
    many = len(numbers) - 2
    rows = []
    for at in range(many):
        row = [0] * at + list(numbers[2 + at:])[::-1]
        for to in range(many - 1 - at, many):
            row[to] -= numbers[to - (many - 1 - at)]
        rows.append(row)
    return determinant(rows)


def rim_worth(numbers):
    """0 if a root is 1 or -1, if the product of two roots is 1, or if the last number is 0."""
    turned = sum(numbers[::2]) - sum(numbers[1::2])
    return numbers[-1] * sum(numbers) * turned * pairs_product(numbers)


def through(worths):
    """The polynomial with whole numbers that is worth these at 0, 1, 2 and so on."""
    found = []
    steep = list(worths)
    for at in range(len(worths)):
        found.append(steep[0])
        steep = [(behind - here) // (at + 1) for here, behind in zip(steep, steep[1:])]
    numbers = []
    for at in reversed(range(len(found))):
        # All so far times z - at, and the next number added.
        numbers = [here - at * behind for here, behind in zip([0, *numbers], [*numbers, 0])]
        numbers[0] += found[at]
    return trimmed(numbers, 0)


def rims_through(worths):
    """The polynomial that is worth these at 0, 1, 2 and so on, each of its roots but once; (1,) if it is nought."""
    found = through(worths)
    # If it is nought, a root is never inside, or two always have the product 1: nothing is damped anywhere.
    return single_roots(found) if found else (1,)


def rim_numbers(rule):
    """A polynomial at whose real roots nothing is damped, and in each gap between them all real numbers, or none.

    Where a root r lies on the circle, r and its conjugate have the product 1, or r is 1 or -1; where two roots have
    this product otherwise, one of them is outside, so nothing is damped there, and nothing is next to it.
    """
    first, second = whole_rule(rule)
    worths = []
    for number in range(len(first) + 2):
        worths.append(rim_worth([value - number * slope for value, slope in zip(first, second)]))
    return rims_through(worths)
