"""Which real numbers q a rule damps: its real stretches."""

from legsteps.arithmetic import NOUGHT, as_fraction
from legsteps.lines import fraction_root, gap_places, has_root_in, joined_spans, near_gaps, root_spans, with_nought
from legsteps.numbers import check_number
from legsteps.rims import rim_numbers
from legsteps.rules import check_rule
from legsteps.spots import point_word
from legsteps.wholes import common_wholes, exact_quotient, product_of


def damps_at(rule, place):
    """Whether the rule damps the real number of the place."""
    number, parts = place
    return point_word(rule, (as_fraction(number, parts), NOUGHT)) == "damped"


def stretches(rule, many):
    """The pairs of ends of the real stretches, ascending, each end near, None for no end."""
    check_rule(rule)
    check_number(many, 1, 10 ** 12)
    return tuple([ends for place, ends in near_gaps(rim_numbers(rule), many) if damps_at(rule, place)])


def damps_all(rule):
    """Whether the rule damps all real numbers below 0."""
    check_rule(rule)
    if not damps_at(rule, (-1, 1)):
        return False
    spans = root_spans(with_nought(rim_numbers(rule)))
    return all([high[0] >= 0 for _, high in spans])


def undamped_below(rule):
    """Any fraction below 0 that the rule does not damp, None if there is none."""
    check_rule(rule)
    numbers = with_nought(rim_numbers(rule))
    # The low places of the root 0, and of those below it, lie in the gaps below 0.
    spans = [span for span in root_spans(numbers) if span[0][0] < 0]
    for (number, parts), _ in spans:
        if not damps_at(rule, (number, parts)):
            return as_fraction(number, parts)
    for span in spans[:-1]:
        found = fraction_root(numbers, span)
        if found is not None:
            return found
    return None


def partings(rule, other):
    """A place in each gap that just one rule damps, the polynomial of all ends, the spans of those that just one damps.

    The gaps are those between the ends of both rules.
    """
    ours, theirs = rim_numbers(rule), rim_numbers(other)
    others = exact_quotient(theirs, common_wholes(ours, theirs))
    spans = joined_spans(ours, others)
    places = gap_places(spans)
    words = [(damps_at(rule, place), damps_at(other, place)) for place in places]
    ends = []
    for span, (first, second) in zip(spans, words):
        # What is no end of a rule is damped by it like the gap ahead.
        if (first and not has_root_in(ours, span)) != (second and not has_root_in(theirs, span)):
            ends.append(span)
    gaps = [place for place, (first, second) in zip(places, words) if first != second]
    return gaps, product_of(ours, others), ends


def are_damped_alike(rule, other):
    """Whether both damp the same real numbers."""
    check_rule(rule)
    check_rule(other)
    places, _, ends = partings(rule, other)
    return not places and not ends


def parting_real(rule, other):
    """Any fraction that just one of both damps, None if there is none."""
    check_rule(rule)
    check_rule(other)
    places, numbers, ends = partings(rule, other)
    if places:
        number, parts = places[0]
        return as_fraction(number, parts)
    for span in ends:
        found = fraction_root(numbers, span)
        if found is not None:
            return found
    return None
