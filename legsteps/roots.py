"""Where the roots of a polynomial lie: inside the circle, on it or outside."""

from legsteps.circle import circle_counts, is_bounded, is_within
from legsteps.polys import check_not_nought
from legsteps.wholes import cleared


def counts_of(polynomial):
    """What circle_counts tells of a polynomial that is not nought."""
    numbers, _ = cleared(polynomial)
    return circle_counts(numbers, (0,) * len(numbers))


def root_counts(polynomial):
    """The numbers of roots inside, on and outside the circle, each counted as often as it is one."""
    check_not_nought(polynomial)
    return counts_of(polynomial)[:3]


def holds_condition(polynomial):
    """Whether no root is outside and each root on the circle is counted once."""
    check_not_nought(polynomial)
    return is_bounded(counts_of(polynomial))


def are_inside(polynomial):
    """Whether all roots are inside."""
    check_not_nought(polynomial)
    return is_within(counts_of(polynomial))
