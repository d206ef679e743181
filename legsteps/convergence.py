"""Whether a rule converges, or why not, and the runs of y' = 0."""

from legsteps.arithmetic import NOUGHT, as_fraction, quotient_of
from legsteps.errors import InvalidStarts
from legsteps.numbers import check_number, is_fraction
from legsteps.roots import holds_condition
from legsteps.rules import check_rule, defect, first_of
from legsteps.wholes import cleared, reduced_wholes


def check_starts(starts, rule):
    """Raise InvalidStarts for what is no tuple of as many fractions as the rule has steps."""
    if not isinstance(starts, tuple) or len(starts) != len(rule[0]) - 1:
        raise InvalidStarts(None)
    for index, each in enumerate(starts):
        if not is_fraction(each):
            raise InvalidStarts(index)


def converges(rule):
    """Whether the rule converges."""
    return why_not(rule) is None


def why_not(rule):
    """The word for the first reason why the rule does not converge; None if it does."""
    check_rule(rule)
    if defect(rule, 0) != NOUGHT:
        return "level"
    if defect(rule, 1) != NOUGHT:
        return "slope"
    if not holds_condition(first_of(rule)):
        return "roots"
    return None


def led_values(factors, starts, gains, below):
    """The starts, and as many numbers behind them as there are gains.

    From each place on the numbers times the factors, all added, are the gain told for this place, by the number below;
    all these are whole numbers.
    """
    lead = factors[-1]
    found = list(starts)
    # The last values are kept as whole numbers by one number in common, so that little has to be reduced.
    numbers, parts = cleared([*starts, (1, below)])
    last, scale = numbers[:-1], numbers[-1]
    for gain in gains:
        behind = gain * scale - sum([factor * each for factor, each in zip(factors, last)])
        last = [each * lead for each in last[1:]] + [behind]
        parts, scale = parts * lead, scale * lead
        found.append(as_fraction(behind, parts))
    return tuple(found)


def still_values(row, starts, number):
    """y_0 to y_number, the starts first, the row being the numbers A of a rule."""
    factors = reduced_wholes(cleared(row)[0])
    return led_values(factors, starts, [0] * (number + 1 - len(starts)), 1)[:number + 1]


def kernel(rule, number):
    """g_0 to g_number, of the numbers as they are passed."""
    check_rule(rule)
    check_number(number, 0, 400)
    row = rule[0]
    before = len(row) - 2
    starts = (NOUGHT,) * before + (quotient_of((1, 1), row[-1]),)
    return still_values(row, starts, before + number)[before:]


def still_run(rule, starts, number):
    """y_0 to y_number of the run of y' = 0 from the starts."""
    check_rule(rule)
    check_starts(starts, rule)
    check_number(number, 0, 400)
    return still_values(rule[0], starts, number)


def barrier(rule):
    """The greatest order that a rule with so many steps and such a last b has if it holds the root condition."""
    check_rule(rule)
    steps = len(rule[0]) - 1
    if rule[0][-1][0] * rule[1][-1][0] <= 0:
        return steps
    return steps + 1 if steps % 2 == 1 else steps + 2
