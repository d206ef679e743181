"""Energies: forms of the last values of a rule that its sum of products is never below the growth of."""

from legsteps.arithmetic import as_fraction, raw_product, sum_of
from legsteps.errors import InvalidTable, TooManySteps
from legsteps.numbers import are_fractions
from legsteps.rules import check_rule
from legsteps.wholes import cleared


def is_table(value, size):
    """Whether the value is a symmetric table of so many rows of so many fractions."""
    if not isinstance(value, tuple) or len(value) != size:
        return False
    if not all([are_fractions(row) and len(row) == size for row in value]):
        return False
    return all([value[at][to] == value[to][at] for at in range(size) for to in range(at)])


def is_nowhere_below(rows, is_strict):
    """Whether the form of a symmetric table of whole numbers is nowhere below 0, if strict above 0 but at noughts."""
    rows = [list(row) for row in rows]
    before = 1
    for at in range(len(rows)):
        top = rows[at]
        lead = top[at]
        if lead < 0 or (lead == 0 and is_strict):
            return False
        if lead == 0:
            # Beside a 0 that stands for a square, any other number makes the form fall below 0.
            if any(top[at:]):
                return False
            continue
        for row in rows[at + 1:]:
            aside = row[at]
            for to in range(at, len(rows)):
                row[to] = (lead * row[to] - aside * top[to]) // before
        before = lead
    return True


def whole_table(rows):
    """The table times one number above 0, with whole numbers."""
    size = len(rows)
    numbers, _ = cleared([each for row in rows for each in row])
    return [numbers[at * size:(at + 1) * size] for at in range(size)]


def gain_table(rule, table):
    """Twice the table of the product of both sums of the rule, less the growth of the table's form."""
    first, second = rule
    size = len(first)
    rows = []
    for at in range(size):
        row = []
        for to in range(size):
            pairs = [raw_product(first[at], second[to]), raw_product(first[to], second[at])]
            if at > 0 and to > 0:
                number, parts = table[at - 1][to - 1]
                pairs.append((-2 * number, parts))
            if at < size - 1 and to < size - 1:
                number, parts = table[at][to]
                pairs.append((2 * number, parts))
            row.append(sum_of(pairs))
        rows.append(row)
    return rows


def is_energy(rule, table):
    """Whether the table is an energy of the rule."""
    check_rule(rule)
    if not is_table(table, len(rule[0]) - 1):
        raise InvalidTable(table)
    if not is_nowhere_below(whole_table(table), True):
        return False
    return is_nowhere_below(whole_table(gain_table(rule, table)), False)


def energy(rule):
    """Any energy of a rule of one step, None if there is none."""
    check_rule(rule)
    if len(rule[0]) > 2:
        raise TooManySteps()
    first, second = rule
    # With g along both squares the table is (a_0 b_0 + g, ..; .., a_1 b_1 - g): the product of these two is greatest in
    # the middle, and it does not do for g = 0. So if any g above 0 does, this one is above 0 and does.
    number, parts = raw_product(first[0], second[0])
    double, whole = sum_of([raw_product(first[1], second[1]), (-number, parts)])
    table = ((as_fraction(double, 2 * whole),),)
    return table if is_energy(rule, table) else None
