"""Likeness: rules multiplied, reduced and mixed, and which ones are the same or alike."""

from legsteps.arithmetic import NOUGHT, as_fraction, raw_product, sum_of
from legsteps.bests import filled
from legsteps.errors import LostStep, TooManySteps, UnlikeSteps
from legsteps.numbers import check_fraction
from legsteps.polys import check_not_nought, product_row, times
from legsteps.rules import check_rule, first_of, normed, second_of, whole_rule
from legsteps.wholes import common_wholes, exact_quotient, reduced_wholes, trimmed


def multiplied(rule, polynomial):
    """The rule with both polynomials times this one, which is not nought."""
    check_rule(rule)
    check_not_nought(polynomial)
    if len(rule[0]) + len(polynomial) > 10:
        raise TooManySteps()
    return (product_row(rule[0], polynomial), product_row(rule[1], polynomial))


def reduced(rule):
    """The rule with both polynomials divided by what divides both, its last a being 1."""
    check_rule(rule)
    first, second = whole_rule(rule)
    second = trimmed(second, 0)
    shared = common_wholes(reduced_wholes(first), reduced_wholes(second))
    if len(shared) == len(first):
        raise LostStep()
    first, second = exact_quotient(first, shared), exact_quotient(second, shared)
    lead = first[-1]
    values, slopes = [tuple([as_fraction(each, lead) for each in row]) for row in (first, second)]
    return (values, filled(slopes, len(values)))


def are_same(rule, other):
    """Whether the numbers of one are those of the other times one number."""
    check_rule(rule)
    check_rule(other)
    return normed(rule) == normed(other)


def are_alike(rule, other):
    """Whether the first polynomial of each one times the second one of the other are the same polynomial."""
    check_rule(rule)
    check_rule(other)
    return times(first_of(rule), second_of(other)) == times(first_of(other), second_of(rule))


def mixed(rule, other, fraction):
    """The fraction times the rule, and what it lacks to be 1 times the other one, added."""
    check_rule(rule)
    check_rule(other)
    check_fraction(fraction)
    if len(rule[0]) != len(other[0]):
        raise UnlikeSteps()
    number, parts = fraction
    left = (parts - number, parts)
    values, slopes = [mixed_row(row, behind, fraction, left) for row, behind in zip(rule, other)]
    if values[-1] == NOUGHT:
        raise LostStep()
    return (values, slopes)


def mixed_row(row, other, share, left):
    """The share of each number of the row, and what is left of that of the other one, added."""
    return tuple([sum_of([raw_product(each, share), raw_product(behind, left)]) for each, behind in zip(row, other)])
