"""How many roots lie inside, on and outside the circle, for polynomials with complex whole numbers.

Such a polynomial is told by two rows of whole numbers of the same length, its reals and its turns (those times i), the
lowest power first, of which not both end with 0.
"""

from legsteps.chains import changes_on_line, real_counts, signed_chain
from legsteps.wholes import reduced_wholes, trimmed


def shifted(numbers, step):
    """The numbers of the polynomial whose worth at z is that of this one at z + step."""
    found = list(numbers)
    for start in range(len(found) - 1):
        for at in reversed(range(start, len(found) - 1)):
            found[at] += step * found[at + 1]
    return found


def noughts_ahead(reals, turns):
    """How often 0 is a root."""
    often = 0
    while reals[often] == 0 and turns[often] == 0:
        often += 1
    return often


def laid_on_line(reals, turns):
    """Both rows of the polynomial in u that tells at u what the given one, in z + 1, tells at (1 + i u) / (1 - i u).

    That is z + 1 = 2 / s with s = 1 - i u; all is multiplied by s to the power of the degree.
    """
    reals = shifted([each << at for at, each in enumerate(reals)][::-1], 1)
    turns = shifted([each << at for at, each in enumerate(turns)][::-1], 1)
    laid, turned = [], []
    for at, (real, turn) in enumerate(zip(reals, turns)):
        # The number is multiplied by - i to the power of its place.
        if at % 2 == 1:
            real, turn = turn, -real
        sign = -1 if at % 4 > 1 else 1
        laid.append(sign * real)
        turned.append(sign * turn)
    return laid, turned


def line_counts(reals, turns):
    """How many roots lie above the real line, on it and below it, and how many on it, each counted once."""
    powers = len(reals) - 1
    both = reduced_wholes([*reals, *turns])
    first, second = trimmed(both[:powers + 1], 0), trimmed(both[powers + 1:], 0)
    # As u goes along the line, the worth turns by half a round to the left for each root above, to the right for each
    # one below. The changes of sign tell it, but for roots that both parts have: real ones and pairs of mirrored ones.
    if len(first) >= len(second):
        chain = signed_chain(first, second)
        turned = -changes_on_line(chain)
    else:
        chain = signed_chain(second, first)
        turned = changes_on_line(chain)
    shared = reduced_wholes(chain[-1])
    often, once = real_counts(shared)
    pairs = (len(shared) - 1 - often) // 2
    single = powers - (len(shared) - 1)
    return (pairs + (single + turned) // 2, often, pairs + (single - turned) // 2, once)


def circle_counts(reals, turns):
    """How many roots lie inside the circle, on it and outside of it, and how many on it, each counted once."""
    inside = noughts_ahead(reals, turns)
    reals, turns = shifted(reals[inside:], -1), shifted(turns[inside:], -1)
    # The root -1 is at no place of the line.
    far = noughts_ahead(reals, turns)
    laid, turned = laid_on_line(reals[far:], turns[far:])
    above, on, below, once = line_counts(laid, turned)
    return (inside + above, on + far, below, once + min(far, 1))


def is_within(counts):
    """Whether by these counts of the circle all roots lie inside."""
    return counts[1] == 0 and counts[2] == 0


def is_bounded(counts):
    """Whether by these counts of the circle no root is outside and each on it is counted once."""
    return counts[2] == 0 and counts[1] == counts[3]
