"""Exact runs of a rule, and its local errors at polynomials."""

from legsteps.arithmetic import NOUGHT, as_fraction, power_of
from legsteps.chains import slopes_of
from legsteps.convergence import check_starts, led_values
from legsteps.errors import LostStep
from legsteps.lines import told_at
from legsteps.numbers import check_fraction, check_number, check_size
from legsteps.polys import check_polynomial
from legsteps.rules import check_rule, whole_rule
from legsteps.spots import tested
from legsteps.wholes import cleared


def test_run(rule, fraction, starts, length):
    """The run of y' = fraction * y with steps of the size 1: the starts and so many numbers behind them."""
    check_rule(rule)
    check_fraction(fraction)
    check_starts(starts, rule)
    check_number(length, 0, 60)
    factors, _ = tested(rule, (fraction, NOUGHT))
    if factors[-1] == 0:
        raise LostStep()
    return led_values(factors, starts, [0] * length, 1)


def told_parts(polynomial, size):
    """The whole number by which a polynomial is told at places of so many sizes; told_at leaves it out."""
    return cleared(polynomial)[1] * power_of(size[1], max(0, len(polynomial) - 1))


def slope_run(rule, polynomial, size, starts, length):
    """The run of y' = the polynomial of t from 0 on, with steps of this size: the starts and so many numbers behind."""
    check_rule(rule)
    check_polynomial(polynomial)
    check_size(size)
    check_starts(starts, rule)
    check_number(length, 0, 60)
    factors, weights = whole_rule(rule)
    numbers, _ = cleared(polynomial)
    told = [told_at(numbers, (at * size[0], size[1])) for at in range(length + len(starts))]
    gains = [size[0] * sum([weight * each for weight, each in zip(weights, told[at:])]) for at in range(length)]
    return led_values(factors, starts, gains, size[1] * told_parts(polynomial, size))


def local_error(rule, polynomial, size, number):
    """The sum of all a times the polynomial, less the size times all b times its slope, from this place on."""
    check_rule(rule)
    check_polynomial(polynomial)
    check_size(size)
    check_number(number, 0, 60)
    factors, parts = cleared(rule[0] + rule[1])
    numbers, _ = cleared(polynomial)
    slopes = slopes_of(numbers)
    many = len(rule[0])
    total = 0
    for at in range(many):
        place = ((number + at) * size[0], size[1])
        total += factors[at] * told_at(numbers, place) - factors[many + at] * size[0] * told_at(slopes, place)
    return as_fraction(total, parts * told_parts(polynomial, size))
