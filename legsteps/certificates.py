"""Certificates: pairs of a claim that is so and of a paper that shows it to the checker."""

from legsteps.convergence import why_not
from legsteps.lefts import unsafe_point, unsafe_point_in
from legsteps.likes import are_alike
from legsteps.pairs import pair_word
from legsteps.plains import raising_play
from legsteps.reals import damps_all, undamped_below
from legsteps.roots import root_counts
from legsteps.rules import order_of
from legsteps.spots import point_word


def certify_roots(polynomial):
    """How many roots lie inside, on and outside the circle."""
    return (("roots", polynomial, root_counts(polynomial)), ())


def certify_convergence(rule):
    """That the rule converges, or why not."""
    why = why_not(rule)
    return (("converges", rule), ()) if why is None else (("fails", rule, why), ())


def certify_order(rule):
    """The order of the rule."""
    return (("order", rule, order_of(rule)), ())


def certify_word(rule, point):
    """What the rule makes of the point."""
    return (("word", rule, point, point_word(rule, point)), ())


def certify_reals(rule):
    """That the rule damps all real numbers below 0, or that it misses some."""
    if damps_all(rule):
        return (("damps all", rule), ())
    missed = undamped_below(rule)
    return (("misses", rule), () if missed is None else missed)


def certify_left(rule):
    """That the rule is safe, or that it is not."""
    point = unsafe_point(rule)
    return (("safe", rule), ()) if point is None else (("unsafe", rule), point)


def certify_wedge(rule, slope):
    """That the rule is safe in the wedge, or that it is not."""
    point = unsafe_point_in(rule, slope)
    return (("safe in", rule, slope), ()) if point is None else (("unsafe in", rule, slope), point)


def certify_ratio(rule, ratio):
    """That the rule keeps at the ratio what plain steps keep, or that it raises a play."""
    play = raising_play(rule, ratio)
    return (("keeps", rule, ratio), ()) if play is None else (("raises", rule, ratio), play)


def certify_likeness(rule, other):
    """That the rules are alike, or that they are not."""
    return (("alike" if are_alike(rule, other) else "not alike", rule, other), ())


def certify_pair(rule, other, corrections, point):
    """What the pair makes of the point."""
    return (("pair", rule, other, corrections, point, pair_word(rule, other, corrections, point)), ())
