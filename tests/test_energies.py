"""Point 27: energies of rules."""

import inspect
import unittest
from fractions import Fraction
from itertools import combinations
from random import Random

from legsteps import energies
from legsteps.energies import energy, is_energy
from legsteps.errors import InvalidRule, InvalidTable, TooManySteps
from legsteps.lefts import is_safe
from legsteps.rims import determinant
from samples import (
    BACK_EULER, EULER, HALF, HALVES, HUGE, LEAP, NIL, ONE, THREE, TWIN, TWO, WILD, pair_of, product_of, python_of, rule_of,
    scaled, some_rules,
)
from wrongs import ODD_PAIRS, ODD_ROWS, ODD_RULES, ODD_VALUES, WrongCase

TWIN_TABLE = (((1, 4), (-1, 2)), ((-1, 2), (5, 4)))
# What is no symmetric table of two rows of two fractions.
ODD_TABLES = ODD_VALUES[:-1] + ODD_PAIRS + ODD_ROWS + (
    (), ((ONE,),), ((ONE, NIL),), ((ONE, NIL), (NIL, ONE), (NIL, NIL)), ((ONE, NIL, NIL), (NIL, ONE, NIL)), ((ONE, NIL), (ONE, ONE)),
    ((ONE, HALF), (TWO, ONE)), ((ONE, NIL), (NIL,)), ((ONE,), (NIL, ONE)), [(ONE, NIL), (NIL, ONE)], ([ONE, NIL], [NIL, ONE]),
    ((ONE, NIL), [NIL, ONE]), ((ONE, (2, 2)), ((2, 2), ONE)), ((ONE, 1), (1, ONE)), ((ONE, None), (None, ONE)), (ONE, ONE),
    ((ONE, (1, True)), (ONE, ONE)), ((True, NIL), (NIL, ONE)), ((ONE, (0, 2)), ((0, 2), ONE)), ((ONE, HALF), ((-1, 2), ONE)),
)


def table_of(*rows):
    return tuple(tuple(pair_of(each) for each in row) for row in rows)


def scaled_table(table, factor):
    return table_of(*[[python_of(each) * factor for each in row] for row in table])


def minors(rows, orders):
    """The determinants of the parts of a table with these rows and columns."""
    parts = [each[1] for row in rows for each in row]
    scale = 1
    for each in parts:
        scale *= each
    whole = [[number * (scale // below) for number, below in row] for row in rows]
    return [determinant([[whole[at][to] for to in order] for at in order]) for order in orders]


def told_energy(rule, table):
    """By the signs of determinants: of the first rows and columns, and of any of them."""
    steps = len(table)
    if any(each <= 0 for each in minors(table, [range(many) for many in range(1, steps + 1)])):
        return False
    first, second = [[python_of(each) for each in row] for row in rule]
    rows = [[(first[at] * second[to] + first[to] * second[at]) / 2 for to in range(steps + 1)] for at in range(steps + 1)]
    for at in range(steps):
        for to in range(steps):
            rows[at][to] += python_of(table[at][to])
            rows[at + 1][to + 1] -= python_of(table[at][to])
    orders = [order for many in range(1, steps + 2) for order in combinations(range(steps + 1), many)]
    return all(each >= 0 for each in minors(table_of(*rows), orders))


class Energies(unittest.TestCase):

    def check(self, rule, table, told):
        self.assertIs(is_energy(rule, table), told)
        self.assertIs(is_energy(table=table, rule=rule), told)
        for factor in (Fraction(-1), Fraction(3, 2), Fraction(1, HUGE)):
            self.assertIs(is_energy(scaled(rule, factor), scaled_table(table, factor * factor)), told)

    def test_one_step(self):
        small = Fraction(1, HUGE)
        for rule in (HALVES, BACK_EULER):
            for number, told in ((Fraction(1, 2), True), (Fraction(1, 2) + small, False), (Fraction(1, 2) - small, False),
                                 (0, False), (1, False), (-1, False), (Fraction(-1, 2), False)):
                self.check(rule, table_of((number,)), told)
        for number in (small, Fraction(1, 2), 1, 0, -1, HUGE):
            self.check(EULER, table_of((number,)), False)

    def test_one_step_where_many_tables_do(self):
        rule = rule_of((-1, 2), (0, 1))
        for number, told in ((1, True), (Fraction(1, 2), True), (Fraction(7, 5), True), (Fraction(3, 2), True), (2, False), (0, False)):
            self.assertEqual(told_energy(rule, table_of((number,))) if number else False, told)
            self.check(rule, table_of((number,)), told)

    def test_two_steps(self):
        small = Fraction(1, 10 ** 50)
        self.check(TWIN, TWIN_TABLE, True)
        self.check(TWIN, table_of((1, 0), (0, 1)), False)
        self.check(TWIN, table_of((0, 0), (0, 0)), False)
        self.check(TWIN, scaled_table(TWIN_TABLE, 1 + small), False)
        self.check(TWIN, scaled_table(TWIN_TABLE, 1 - small), False)
        self.check(TWIN, table_of((Fraction(1, 4), Fraction(-1, 2)), (Fraction(-1, 2), Fraction(5, 4) + small)), False)
        self.check(TWIN, table_of((Fraction(1, 4) - small, Fraction(-1, 2)), (Fraction(-1, 2), Fraction(5, 4))), False)
        self.check(TWIN, scaled_table(TWIN_TABLE, -1), False)

    def test_forms_that_are_not_above_0(self):
        # The gain is nowhere below 0, but the form of the table is 0 at some rows.
        rule = rule_of((0, 0, 1), (0, 0, 1))
        self.check(rule, table_of((Fraction(1, 2), 0), (0, 1)), True)
        self.check(rule, table_of((0, 0), (0, 1)), False)
        self.check(rule, table_of((0, 0), (0, 0)), False)
        self.check(rule, table_of((1, 0), (0, 1)), True)
        self.check(rule, table_of((1, 0), (0, Fraction(1, 2))), False)
        self.check(rule, table_of((1, 1), (1, 1)), False)
        self.check(rule_of((0, 1), (0, 0)), table_of((0,)), False)

    def test_many_steps(self):
        for steps in range(1, 9):
            rule = rule_of([0] * steps + [1], [0] * steps + [1])
            table = [[Fraction(at + 1, steps) if at == to else 0 for to in range(steps)] for at in range(steps)]
            self.check(rule, table_of(*table), True)
            table[-1][-1] += Fraction(1, 10 ** 40)
            self.check(rule, table_of(*table), False)
            table[-1][-1] -= Fraction(2, 10 ** 40)
            self.check(rule, table_of(*table), True)

    def test_a_second_polynomial_that_is_nought(self):
        for table in (table_of((1,)), table_of((0,)), table_of((-1,))):
            self.check(rule_of((1, 2), (0, 0)), table, False)

    def test_drawn_tables(self):
        random = Random(51)
        found = {True: 0, False: 0}
        for _ in range(700):
            steps = random.choice((1, 2, 2, 3))
            last = [Fraction(random.randint(-1, 1), random.randint(2, 9)) for _ in range(2 * steps)]
            rule = rule_of([*last[:steps], 1], [*last[steps:], 1])
            table = [[Fraction(0)] * steps for _ in range(steps)]
            for at in range(steps):
                table[at][at] = Fraction(at + 1, steps + 1)
                for to in range(at):
                    table[at][to] = table[to][at] = Fraction(random.randint(-1, 1), random.randint(3, 9))
            table = table_of(*table)
            told = told_energy(rule, table)
            found[told] += 1
            self.check(rule, table, told)
        self.assertGreater(min(found.values()), 50)

    def test_what_an_energy_tells(self):
        self.assertTrue(is_safe(TWIN))
        random = Random(52)
        rows = [[Fraction(random.randint(-9, 9)) for _ in range(3)] for _ in range(50)]
        for row in rows:
            first = sum(python_of(a) * y for a, y in zip(TWIN[0], row)) * row[2]
            forms = [sum(python_of(TWIN_TABLE[at][to]) * part[at] * part[to] for at in range(2) for to in range(2))
                     for part in (row[:2], row[1:])]
            self.assertGreaterEqual(first, forms[1] - forms[0])

    def test_tables_of_the_package_of_great_numbers(self):
        rule = rule_of((-HUGE, HUGE + 3), (0, HUGE ** 2))
        table = energy(rule)
        self.assertIs(is_energy(rule, table), True)
        self.assertIs(is_energy(scaled(rule, HUGE), scaled_table(table, HUGE ** 2)), True)


class AnyEnergy(unittest.TestCase):

    def test_rules_of_one_step(self):
        self.assertEqual(energy(HALVES), ((HALF,),))
        self.assertEqual(energy(rule=BACK_EULER), ((HALF,),))
        self.assertIsNone(energy(EULER))
        self.assertEqual(energy(scaled(HALVES, -2)), ((TWO,),))

    def test_drawn_rules(self):
        random = Random(53)
        found = {True: 0, False: 0}
        for _ in range(500):
            rule = rule_of((random.randint(-3, 3), random.choice((-2, 1, 3))), (random.randint(-3, 3), random.randint(-3, 3)))
            table = energy(rule)
            found[table is not None] += 1
            if table is None:
                for number in range(1, 60):
                    self.assertIs(is_energy(rule, table_of((Fraction(number, 6),))), False, rule)
            else:
                self.assertIs(told_energy(rule, table), True, rule)
                common = product_of([python_of(rule[0][0])], [python_of(rule[1][1])]) == product_of(
                    [python_of(rule[0][1])], [python_of(rule[1][0])])
                if not common:
                    self.assertIs(is_safe(rule), True, rule)
        self.assertGreater(min(found.values()), 50)


class WrongInputs(WrongCase):

    def test_what_is_no_rule(self):
        for odd in ODD_RULES:
            self.check_raises(InvalidRule, odd, energy, odd)
            self.check_raises(InvalidRule, odd, energy, rule=odd)
            self.check_raises(InvalidRule, odd, is_energy, odd, ((ONE,),))
            self.check_raises(InvalidRule, odd, is_energy, table=None, rule=odd)

    def test_what_is_no_table(self):
        for odd in ODD_TABLES:
            self.check_raises(InvalidTable, odd, is_energy, TWIN, odd)
            self.check_raises(InvalidTable, odd, is_energy, table=odd, rule=LEAP)
        for rule, size in ((EULER, 1), (LEAP, 2), (THREE, 3)):
            for many in range(5):
                table = ((ONE,) * many,) * many
                if many != size:
                    self.check_raises(InvalidTable, table, is_energy, rule, table)
                else:
                    self.assertIs(is_energy(rule, table), False)

    def test_too_many_steps_come_last(self):
        for rule in (LEAP, TWIN, WILD, THREE, some_rules(1, (8,))[0]):
            self.check_bare(TooManySteps, energy, rule)
            self.check_bare(TooManySteps, energy, rule=rule)


class Interface(unittest.TestCase):

    def test_names_of_the_parameters(self):
        for name, parameters in (("is_energy", ["rule", "table"]), ("energy", ["rule"])):
            function = getattr(energies, name)
            self.assertEqual(list(inspect.signature(function).parameters), parameters)
            self.assertEqual(function.__module__, "legsteps.energies")

    def test_the_examples_of_the_document(self):
        self.assertEqual(
            [energy(HALVES), energy(BACK_EULER), energy(EULER), is_energy(BACK_EULER, ((ONE,),)),
             is_energy(TWIN, (((1, 4), (-1, 2)), ((-1, 2), (5, 4)))), is_energy(TWIN, ((ONE, NIL), (NIL, ONE)))],
            [(((1, 2),),), (((1, 2),),), None, False, True, False],
        )


if __name__ == "__main__":
    unittest.main()
