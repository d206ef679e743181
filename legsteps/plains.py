"""What plain steps keep: up to which ratio a rule keeps it, and plays that it raises."""

from legsteps.arithmetic import NOUGHT, as_fraction, quotient_of, sum_of
from legsteps.numbers import are_fractions, check_ratio, is_fraction
from legsteps.rules import check_rule, normed, whole_rule
from legsteps.wholes import cleared

ONE = (1, 1)
TWO = (2, 1)


def is_level(rule):
    """Whether the sum of all alpha_j is 1."""
    return sum_of(rule[0]) == NOUGHT


def shares(rule, ratio):
    """What y_k is made of: each alpha_j less the ratio times beta_j, for j below k, and the ratio times each beta_j.

    The first ones are the shares of the old values, the others those of the values after plain steps.
    """
    values, slopes = normed(rule)
    moves = [as_fraction(number * ratio[0], parts * ratio[1]) for number, parts in slopes]
    stays = [sum_of([(-number, parts), (-less, by)]) for (number, parts), (less, by) in zip(values[:-1], moves)]
    return stays, moves


def keeps(rule, ratio):
    """Whether the rule keeps at the ratio what plain steps keep."""
    check_rule(rule)
    check_ratio(ratio)
    stays, moves = shares(rule, ratio)
    return is_level(rule) and all([number >= 0 for number, _ in stays + moves])


def greatest_ratio(rule):
    """The greatest ratio at which the rule keeps what plain steps keep, `endless` if at all, None if at none."""
    check_rule(rule)
    values, slopes = normed(rule)
    if not is_level(rule) or any([number < 0 for number, _ in slopes]):
        return None
    if any([number > 0 for number, _ in values[:-1]]):
        return None
    pairs = [(value, slope) for value, slope in zip(values[:-1], slopes) if slope[0] > 0]
    limits = [quotient_of((-number, parts), slope) for (number, parts), slope in pairs]
    if not limits:
        return "endless"
    numbers, parts = cleared(limits)
    least = min(numbers)
    return as_fraction(least, parts) if least > 0 else None


def raising_play(rule, ratio):
    """Any raising play of the rule at the ratio, None if it keeps there what plain steps keep."""
    check_rule(rule)
    check_ratio(ratio)
    if keeps(rule, ratio):
        return None
    if not is_level(rule):
        return steady_play(rule)
    stays, moves = shares(rule, ratio)
    if any([number < 0 for number, _ in stays + moves[:-1]]):
        return signed_play(stays, moves)
    return last_play(moves)


def steady_play(rule):
    """A play without slopes of a rule for which the sum of all alpha_j is not 1."""
    steps = len(rule[0]) - 1
    # From M on, y_k is this sum times M, for this M just 2 above it.
    middle = quotient_of((-2, 1), sum_of(normed(rule)[0]))
    return (middle, (middle,) * steps + (sum_of([middle, TWO]),), (NOUGHT,) * (steps + 1))


def signed_play(stays, moves):
    """A play around 0 where some share, but the last move, is below 0: all old values and steps take its sign."""
    values = [ONE if number >= 0 else (-1, 1) for number, _ in stays]
    slopes = [NOUGHT if (stay >= 0) == (move >= 0) else (-2 * sign, 1)
              for (stay, _), (move, _), (sign, _) in zip(stays, moves, values)]
    # All shares have the sum 1, so their sizes have a greater one.
    last = sum_of([(abs(number), parts) for number, parts in stays + moves[:-1]])
    return (NOUGHT, tuple(values) + (last,), tuple(slopes) + (NOUGHT,))


def last_play(moves):
    """A play around 0 where of all shares just the last move is below 0: the new slope pulls back and so lifts y_k."""
    steps = len(moves) - 1
    number, parts = moves[-1]
    return (NOUGHT, (ONE,) * steps + ((parts - number, parts),), (NOUGHT,) * steps + ((-1, 1),))


def is_play(value, many):
    """Whether the value is a triple of a fraction and of two tuples of so many fractions."""
    if not isinstance(value, tuple) or len(value) != 3:
        return False
    middle, values, slopes = value
    if not is_fraction(middle) or not are_fractions(values) or not are_fractions(slopes):
        return False
    return len(values) == many and len(slopes) == many


def is_kept_by(rule, ratio, values, slopes):
    """Whether the rule binds these values and slopes, whole numbers, for the ratio as the step."""
    first, second = whole_rule(rule)
    told = sum([number * each for number, each in zip(first, values)])
    return told * ratio[1] == ratio[0] * sum([number * each for number, each in zip(second, slopes)])


def is_raising(rule, ratio, value):
    """Whether the value is a raising play of the rule at the ratio."""
    check_rule(rule)
    check_ratio(ratio)
    many = len(rule[0])
    if not is_play(value, many):
        return False
    middle, values, slopes = value
    numbers, unit = cleared((middle,) + values + slopes)
    apart = [each - numbers[0] for each in numbers[1:many + 1]]
    moves = numbers[many + 1:]
    if any([abs(each + move) > abs(each) for each, move in zip(apart, moves)]):
        return False
    if any([abs(each) > unit for each in apart[:-1]]) or abs(apart[-1]) <= unit:
        return False
    return is_kept_by(rule, ratio, numbers[1:many + 1], moves)
