"""Rows of rests of polynomials with whole numbers, and the changes of sign in them (Sturm)."""

from legsteps.arithmetic import power_of
from legsteps.wholes import exact_parts, reduced_wholes, rest_of


def slopes_of(numbers):
    """The derivative."""
    return tuple([at * each for at, each in enumerate(numbers)][1:])


def signed_chain(first, second):
    """Both, and so on: each one is less the rest of the two ahead of it, times a number above 0; the last divides all.

    The first one has at least as many elements as the second one. What divides the rests is known ahead (Collins), so
    that no common divisor has to be looked for.
    """
    chain = [first]
    lead, scale = 1, 1
    while second:
        chain.append(second)
        more = len(first) - len(second)
        divisor = lead * power_of(scale, more)
        if second[-1] > 0 or more % 2 == 1:
            divisor = -divisor
        first, second = second, exact_parts(rest_of(first, second), divisor)
        lead = abs(first[-1])
        if more > 0:
            scale = power_of(lead, more) // power_of(scale, more - 1)
    return chain


def changes_of(values):
    """How often the sign changes along the values, noughts left out."""
    kept = [each > 0 for each in values if each != 0]
    return len([here for here, behind in zip(kept, kept[1:]) if here != behind])


def changes_on_line(chain):
    """The changes of sign of the chain far below less those far above."""
    below = [each[-1] if len(each) % 2 == 1 else -each[-1] for each in chain]
    return changes_of(below) - changes_of([each[-1] for each in chain])


def real_counts(numbers):
    """How many real roots the polynomial has: each as often as it is one, and each once."""
    often, once = 0, None
    while len(numbers) > 1:
        chain = signed_chain(numbers, slopes_of(numbers))
        found = changes_on_line(chain)
        often += found
        if once is None:
            once = found
        numbers = reduced_wholes(chain[-1])
    return (often, once or 0)
