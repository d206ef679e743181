"""Rules: pairs (A, B) of tuples of fractions, their polynomials, defects and orders."""

from math import factorial

from legsteps.arithmetic import NOUGHT, power_of, quotient_of, raw_product, sum_of
from legsteps.errors import InvalidRule
from legsteps.numbers import are_fractions, check_number
from legsteps.wholes import cleared, reduced_wholes, trimmed


def is_rule(value):
    """Whether the value is a pair of tuples of as many fractions, two to nine, the last one of the first not (0, 1)."""
    if not isinstance(value, tuple) or len(value) != 2:
        return False
    first, second = value
    if not are_fractions(first) or not are_fractions(second):
        return False
    return len(first) == len(second) and 2 <= len(first) <= 9 and first[-1] != NOUGHT


def check_rule(rule):
    """Raise InvalidRule for what is no rule."""
    if not is_rule(rule):
        raise InvalidRule(rule)


def steps_of(rule):
    """The steps: one less than A has numbers."""
    check_rule(rule)
    return len(rule[0]) - 1


def first_of(rule):
    """The polynomial of A."""
    check_rule(rule)
    return trimmed(rule[0], NOUGHT)


def second_of(rule):
    """The polynomial of B, () if all its numbers are 0."""
    check_rule(rule)
    return trimmed(rule[1], NOUGHT)


def whole_rule(rule):
    """A and B as whole numbers, all of them times the same number above 0, and reduced."""
    numbers = reduced_wholes(cleared(rule[0] + rule[1])[0])
    many = len(rule[0])
    return numbers[:many], numbers[many:]


def normed(rule):
    """The rule divided by its last a."""
    check_rule(rule)
    lead = rule[0][-1]
    first, second = [tuple([quotient_of(each, lead) for each in row]) for row in rule]
    return (first, second)


def is_explicit(rule):
    """Whether the last b is 0."""
    check_rule(rule)
    return rule[1][-1] == NOUGHT


def defect(rule, number):
    """C_number."""
    if number == 0:
        return sum_of(rule[0])
    pairs = []
    for at, (value, slope) in enumerate(zip(rule[0], rule[1])):
        less = power_of(at, number - 1)
        pairs.append(raw_product(value, (less * at, factorial(number))))
        pairs.append(raw_product(slope, (-less, factorial(number - 1))))
    return sum_of(pairs)


def defects(rule, number):
    """C_0 to C_number."""
    check_rule(rule)
    check_number(number, 0, 40)
    return tuple([defect(rule, each) for each in range(number + 1)])


def order_of(rule):
    """The greatest p such that C_0 to C_p are 0; -1 if C_0 is not."""
    check_rule(rule)
    order = -1
    while defect(rule, order + 1) == NOUGHT:
        order += 1
    return order


def error_number(rule):
    """The first defect that is not 0, divided by the sum of B; None if this sum is 0."""
    check_rule(rule)
    total = sum_of(rule[1])
    if total == NOUGHT:
        return None
    return quotient_of(defect(rule, order_of(rule) + 1), total)
