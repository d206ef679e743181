"""Point 35: what the checker accepts, and that it is true, whoever wrote it."""

import inspect
import unittest
from fractions import Fraction
from random import Random

from legsteps import checker
from legsteps.bests import adams, backward, moulton
from legsteps.checker import accepts
from legsteps.convergence import why_not
from legsteps.lefts import unsafe_point, unsafe_point_in
from legsteps.likes import are_alike, multiplied
from legsteps.pairs import pair_word
from legsteps.plains import keeps, raising_play
from legsteps.reals import damps_all, undamped_below
from legsteps.roots import root_counts
from legsteps.rules import order_of
from legsteps.spots import point_word
from samples import (
    BACK_EULER, EULER, FLAT, FRACTIONS, HALF, HALVES, HUGE, LEAP, LESS_ONE, NIL, ODD_PAIRS, ODD_ROWS, ODD_VALUES, ONE, SLOW, THREE,
    TOUCHING, TOUCHING_TWICE, TWIN, TWO, WILD, nested, pair_of, polynomial_of, product_of, rule_of, scaled, some_polynomials, some_rules,
)
from wrongs import ODD_RULES, ORIGIN, odd_numbers

RULES = (EULER, BACK_EULER, HALVES, LEAP, TWIN, WILD, FLAT, SLOW, THREE, adams(3), moulton(2), backward(4), TOUCHING, rule_of((0, -2), (0, 1)))
LEFT = ((-1, 1), NIL)
ODD = ODD_VALUES + ODD_PAIRS + ODD_ROWS
# None of these is a part of any claim, but for whole numbers. (The last one of the odd values is a rule.)
ODD_PARTS = ODD_VALUES[:-1] + ODD_PAIRS
TABLE = (((1, 4), (-1, 2)), ((-1, 2), (5, 4)))
PLAY = (NIL, (ONE, (-3, 1)), ((-2, 1), NIL))

# Claims that are so, with a paper.
GOOD = (
    (("roots", (ONE, NIL, ONE), (0, 2, 0)), ()), (("roots", (ONE,), (0, 0, 0)), ()), (("roots", ((-5, 1), (4, 1), ONE), (0, 1, 1)), ()),
    (("converges", EULER), ()), (("fails", WILD, "roots"), ()), (("fails", FLAT, "level"), ()), (("fails", SLOW, "slope"), ()),
    (("order", HALVES, 2), ()), (("order", FLAT, -1), ()), (("order", SLOW, 0), ()), (("word", EULER, LEFT, "damped"), ()),
    (("word", BACK_EULER, (ONE, NIL), "lost"), ()), (("word", EULER, ORIGIN, "kept"), ()), (("word", WILD, ORIGIN, "grows"), ()),
    (("damps all", TWIN), ()), (("misses", EULER), (-2, 1)), (("misses", LEAP), (-1, HUGE)), (("misses", TOUCHING), ()),
    (("misses", rule_of((0, -2), (0, 1))), (-2, 1)), (("safe", TWIN), ()), (("unsafe", EULER), ((-2, 1), NIL)), (("unsafe", LEAP), LEFT),
    (("unsafe", rule_of((0, -2), (0, 1))), ((-2, 1), NIL)), (("safe in", THREE, (14, 1)), ()), (("unsafe in", EULER, (1, 100)), ((-2, 1), NIL)),
    (("unsafe in", LEAP, ONE), ((-1, 1), (1, 2))), (("energy", TWIN), TABLE), (("energy", BACK_EULER), ((HALF,),)), (("keeps", EULER, ONE), ()),
    (("keeps", BACK_EULER, (HUGE, 1)), ()), (("raises", EULER, TWO), PLAY), (("alike", EULER, multiplied(EULER, (ONE, ONE))), ()),
    (("not alike", EULER, HALVES), ()), (("pair", EULER, HALVES, 1, ((-2, 1), NIL), "kept"), ()), (("pair", EULER, HALVES, 6, LEFT, "damped"), ()),
    (("pair", EULER, BACK_EULER, 2, (ONE, NIL), "grows"), ()),
)
WITH_PAPERS = ("misses", "unsafe", "unsafe in", "energy", "raises")
WORDS = (
    "roots", "converges", "fails", "order", "word", "damps all", "misses", "safe", "unsafe", "safe in", "unsafe in", "energy", "keeps", "raises",
    "alike", "not alike", "pair",
)
# Papers that show something of some rule, and others.
PAPERS = (
    (), (-2, 1), (-1, 1), (-1, HUGE), NIL, ONE, (1, 2), ((-2, 1), NIL), LEFT, ((-1, 1), HALF), ((-1, 1), (-3, 1)), ((NIL, NIL)), (NIL, ONE), ((HALF,),), TABLE, PLAY,
    None, True, False, 0, "", "()", [], [(-2, 1)], ((),), ("",), (None,), (True, 1), (False,), (-2, 2),
)


class CheckerCase(unittest.TestCase):

    def check(self, claim, paper, told):
        self.assertIs(accepts(claim, paper), told, (claim, paper))
        self.assertIs(accepts(paper=paper, claim=claim), told)


class Accepted(CheckerCase):

    def test_each_claim_with_a_paper(self):
        for claim, paper in GOOD:
            self.check(claim, paper, True)
        self.assertEqual({claim[0] for claim, _ in GOOD}, set(WORDS))

    def test_other_papers_and_the_empty_one(self):
        for claim, paper in GOOD:
            for other in PAPERS + ODD + FRACTIONS:
                if claim[0] not in WITH_PAPERS:
                    self.check(claim, other, isinstance(other, tuple) and len(other) == 0)
            if claim[0] in WITH_PAPERS and paper != ():
                self.check(claim, (), False)
                for odd in ODD + (list(paper), paper + paper, paper[:-1], (paper,), paper + ((),)):
                    self.check(claim, odd, False)

    def test_a_part_of_a_claim_spoilt(self):
        for claim, paper in GOOD:
            for at in range(len(claim)):
                for odd in ODD_PARTS:
                    if not ((claim[0], at) in (("order", 2), ("pair", 3)) and odd.__class__ is int):
                        self.check(claim[:at] + (odd,) + claim[at + 1:], paper, False)
                self.check(claim[:at] + claim[at + 1:], paper, False)
                self.check(claim[:at] + (list(claim[at]) if isinstance(claim[at], tuple) else [claim[at]],) + claim[at + 1:], paper, False)
            for more in ((), (None,), (claim[-1],)):
                self.check(claim + ((more,) if more == () else more), paper, False)
            self.check(list(claim), paper, False)
            self.check((claim,), paper, False)

    def test_words_that_are_none(self):
        for claim, paper in GOOD:
            for word in ("", "Roots", "root", claim[0] + " ", " " + claim[0], claim[0].upper(), claim[0] + "s", claim[0].encode(), "claim"):
                self.check((word,) + claim[1:], paper, False)

    def test_each_number_of_a_rule_bent(self):
        for which in (0, 1):
            for at in (0, 1):
                rows = [[Fraction(*each) for each in row] for row in EULER]
                rows[which][at] += Fraction(1, HUGE)
                # The last slope of the play is 0, so that the number by it does not matter.
                self.check(("raises", rule_of(*rows), TWO), PLAY, (which, at) == (1, 1))
                self.check(("not alike", EULER, rule_of(*rows)), (), True)
                self.check(("alike", EULER, rule_of(*rows)), (), False)


class Refused(CheckerCase):

    def test_roots(self):
        for polynomial in some_polynomials(60) + [LESS_ONE, (HALF,), (NIL, NIL, ONE)]:
            if not polynomial:
                continue
            counts = root_counts(polynomial)
            self.check(("roots", polynomial, counts), (), True)
            for at in range(3):
                for step in (1, -1):
                    self.check(("roots", polynomial, counts[:at] + (counts[at] + step,) + counts[at + 1:]), (), False)
            if len(set(counts)) > 1:
                self.check(("roots", polynomial, counts[1:] + counts[:1]), (), False)
            for odd in (list(counts), counts + (0,), counts[:2], tuple(map(str, counts)), tuple(bool(each) for each in counts), sum(counts)):
                self.check(("roots", polynomial, odd), (), False)
        self.check(("roots", (), (0, 0, 0)), (), False)
        self.check(("roots", (NIL,), (0, 0, 0)), (), False)
        self.check(("roots", (ONE,), (False, False, False)), (), False)
        self.check(("roots", (NIL, ONE), (True, 0, 0)), (), False)

    def test_convergence(self):
        for rule in RULES + tuple(some_rules(40)):
            why = why_not(rule)
            self.check(("converges", rule), (), why is None)
            for word in ("level", "slope", "roots", "", "converges", "None", None, b"roots"):
                self.check(("fails", rule, word), (), word is not None and word == why)

    def test_orders(self):
        for rule in RULES + tuple(some_rules(40)):
            for number in range(-3, 18):
                self.check(("order", rule, number), (), number == order_of(rule))
            for odd in (None, str(order_of(rule)), (order_of(rule), 1), True, False, "0"):
                self.check(("order", rule, odd), (), False)

    def test_words(self):
        for rule in RULES:
            for point in (ORIGIN, LEFT, (ONE, NIL), ((-1, 2), (7, 3)), (NIL, ONE), ((-2, 1), NIL)):
                for word in ("lost", "damped", "kept", "grows", "none", "", None):
                    self.check(("word", rule, point, word), (), word == point_word(rule, point))

    def test_damping(self):
        for rule in RULES + tuple(some_rules(30)) + (TOUCHING_TWICE,):
            is_all = damps_all(rule)
            self.check(("damps all", rule), (), is_all)
            self.check(("misses", rule), (), not is_all and undamped_below(rule) is None)
            for number in (Fraction(-1), Fraction(-2), Fraction(-1, HUGE), Fraction(-HUGE), Fraction(0), Fraction(1), Fraction(2), Fraction(-39, 8)):
                told = number < 0 and point_word(rule, (pair_of(number), NIL)) != "damped"
                self.check(("misses", rule), pair_of(number), told)
                self.check(("misses", rule), (pair_of(number), NIL), False)
                self.check(("misses", rule), (2 * pair_of(number)[0], 2 * pair_of(number)[1]), False)

    def test_safety(self):
        for rule in RULES + tuple(some_rules(30)):
            is_safe = unsafe_point(rule) is None
            self.check(("safe", rule), (), is_safe)
            self.check(("unsafe", rule), (), False)
            for across in (Fraction(-2), Fraction(-1, 9), Fraction(0), Fraction(1), Fraction(-1, HUGE)):
                for along in (Fraction(0), Fraction(1, 3), Fraction(-7), Fraction(HUGE)):
                    point = (pair_of(across), pair_of(along))
                    told = across < 0 and point_word(rule, point) != "damped"
                    self.check(("unsafe", rule), point, told)
                    self.check(("unsafe", rule), point[0], False)
                    for slope in (Fraction(1, 3), Fraction(1), Fraction(3), Fraction(7, 2), Fraction(14)):
                        within = told and slope * across < along < -slope * across
                        self.check(("unsafe in", rule, pair_of(slope)), point, within)

    def test_edges_of_the_wedge(self):
        # All these points are not damped; those just on the edge are not in the wedge.
        for along, told in ((Fraction(0), True), (Fraction(2), False), (Fraction(-2), False), (2 - Fraction(1, HUGE), True), (Fraction(1, HUGE) - 2, True),
                            (2 + Fraction(1, HUGE), False)):
            self.check(("unsafe in", LEAP, TWO), ((-1, 1), pair_of(along)), told)
            self.check(("unsafe in", LEAP, TWO), (ONE, pair_of(along)), False)
            self.check(("unsafe in", LEAP, TWO), (NIL, pair_of(along)), False)
        for odd in ODD_VALUES + (NIL, (-1, 1), 1, (2, 2)):
            self.check(("unsafe in", LEAP, odd), LEFT, False)
            self.check(("safe in", TWIN, odd), (), False)
            self.check(("keeps", BACK_EULER, odd), (), False)

    def test_wedges(self):
        for rule in RULES:
            for slope in (ONE, (14, 1), (15, 1), (1, HUGE)):
                self.check(("safe in", rule, slope), (), unsafe_point_in(rule, slope) is None)

    def test_energies(self):
        for table in (((ONE, NIL), (NIL, ONE)), ((HALF,),), TABLE[::-1], (TABLE[0], TABLE[0]), (((1, 4), (-1, 2)), ((-1, 3), (5, 4))),
                      (((1, 4), (-1, 2)), ((-1, 2), (5, 4), NIL)), TABLE + TABLE, (((-1, 4), (-1, 2)), ((-1, 2), (5, 4))), ((), ()), (), TABLE[0]):
            self.check(("energy", TWIN), table, False)
        self.check(("energy", EULER), ((HALF,),), False)
        self.check(("energy", scaled(TWIN, 2)), TABLE, False)
        self.check(("energy", scaled(TWIN, 2)), tuple(tuple((4 * n, m) if m == 1 else pair_of(Fraction(4 * n, m)) for n, m in row) for row in TABLE), True)
        for at in range(2):
            for to in range(2):
                rows = [[Fraction(*each) for each in row] for row in TABLE]
                rows[at][to] += Fraction(1, HUGE)
                rows[to][at] = rows[at][to]
                self.check(("energy", TWIN), tuple(tuple(map(pair_of, row)) for row in rows), False)

    def test_plays(self):
        for rule in RULES[:8] + tuple(some_rules(30)):
            for ratio in (ONE, TWO, (1, 9)):
                told = keeps(rule, ratio)
                self.check(("keeps", rule, ratio), (), told)
                play = raising_play(rule, ratio)
                if play is not None:
                    self.check(("raises", rule, ratio), play, True)
                    self.check(("raises", rule, ratio), (play[0], play[1], play[2] + (NIL,)), False)
                    self.check(("raises", rule, ratio), (play[0], play[1], play[2][:-1] + (pair_of(Fraction(*play[2][-1]) + 10 ** 9),)), False)
                self.check(("raises", rule, ratio), (), False)
                for other in (PLAY, (NIL, (ONE,) * len(rule[0]), (NIL,) * len(rule[0]))):
                    self.assertFalse(told and accepts(("raises", rule, ratio), other))

    def test_likeness(self):
        rules = RULES[:6] + tuple(multiplied(rule, (ONE, TWO)) for rule in RULES[:6]) + (scaled(EULER, -3),)
        for rule in rules:
            for other in rules:
                self.check(("alike", rule, other), (), are_alike(rule, other))
                self.check(("not alike", rule, other), (), not are_alike(rule, other))
        for odd in ODD_RULES:
            for word in ("alike", "not alike"):
                self.check((word, odd, EULER), (), False)
                self.check((word, EULER, odd), (), False)
                self.check((word, odd, odd), (), False)

    def test_pairs(self):
        for rule, other in ((EULER, HALVES), (EULER, BACK_EULER), (LEAP, TWIN), (WILD, LEAP)):
            for number in (1, 2, 6):
                for point in (ORIGIN, LEFT, ((-2, 1), NIL), (NIL, ONE)):
                    for word in ("damped", "kept", "grows", "lost", ""):
                        self.check(("pair", rule, other, number, point, word), (), word == pair_word(rule, other, number, point))
        for word in ("damped", "kept", "grows"):
            # Unlike steps, a guess that is not explicit, wrong numbers of corrections.
            self.check(("pair", EULER, TWIN, 1, LEFT, word), (), False)
            self.check(("pair", LEAP, EULER, 1, LEFT, word), (), False)
            self.check(("pair", HALVES, EULER, 1, LEFT, word), (), False)
            self.check(("pair", TWIN, LEAP, 1, LEFT, word), (), False)
            for odd in odd_numbers(1, 6):
                self.check(("pair", EULER, HALVES, odd, LEFT, word), (), False)

    def test_claims_and_papers_of_any_sort(self):
        for odd in ODD + FRACTIONS + ODD_RULES + ((), nested(1), nested(13), ((((),),),), "safe", ("safe",), ("safe", None), ("safe", EULER, EULER), (("safe", EULER), ())):
            for paper in PAPERS + ODD_VALUES:
                self.check(odd, paper, False)
        for word in WORDS:
            for many in range(8):
                for odd in ODD_PARTS:
                    self.check((word,) + (odd,) * many, (), False)
                    self.check((word, EULER) + (odd,) * many, odd, False)
                    if word != "order":
                        self.check((word, TWIN, odd), (), False)


class Exclusions(CheckerCase):

    def test_at_most_one_of_two_claims(self):
        random = Random(141)
        rules = RULES + tuple(some_rules(30))
        papers = list(PAPERS)
        for rule in rules:
            papers += [each for each in (unsafe_point(rule), undamped_below(rule), raising_play(rule, ONE), unsafe_point_in(rule, ONE)) if each is not None]
        for rule in rules:
            other = random.choice(rules)
            for claims in (
                [("converges", rule)] + [("fails", rule, word) for word in ("level", "slope", "roots")], [("order", rule, each) for each in range(-1, 9)],
                [("word", rule, LEFT, word) for word in ("lost", "damped", "kept", "grows")], [("damps all", rule), ("misses", rule)],
                [("safe", rule), ("unsafe", rule)], [("safe in", rule, ONE), ("unsafe in", rule, ONE)], [("keeps", rule, ONE), ("raises", rule, ONE)],
                [("alike", rule, other), ("not alike", rule, other)], [("safe", rule), ("unsafe in", rule, ONE)], [("safe", rule), ("misses", rule)],
                [("safe in", rule, TWO), ("unsafe in", rule, ONE)], [("safe in", rule, TWO), ("misses", rule)],
                [("keeps", rule, TWO), ("raises", rule, ONE)],
            ):
                shown = [claim for claim in claims if any(accepts(claim, paper) for paper in papers)]
                self.assertLessEqual(len(shown), 1, shown)

    def test_what_an_energy_shows(self):
        # A rule with an energy whose polynomials have no common root on the circle is safe.
        for rule, table in ((HALVES, ((HALF,),)), (BACK_EULER, ((HALF,),)), (TWIN, TABLE)):
            self.check(("energy", rule), table, True)
            self.check(("safe", rule), (), True)
        twice = rule_of(product_of((-1, 1), (1, 1)), product_of((0, 1), (1, 1)))
        self.check(("unsafe", twice), LEFT, True)
        self.check(("safe", twice), (), False)
        self.assertEqual(twice, multiplied(BACK_EULER, polynomial_of((1, 1))))


class Interface(unittest.TestCase):

    def test_the_function(self):
        self.assertEqual(list(inspect.signature(accepts).parameters), ["claim", "paper"])
        self.assertEqual((accepts.__module__, checker.accepts), ("legsteps.checker", accepts))

    def test_the_examples_of_the_document(self):
        self.assertEqual(
            [accepts(("safe", TWIN), ()), accepts(("safe", EULER), ()), accepts(("unsafe", EULER), ((-2, 1), NIL)),
             accepts(("unsafe", EULER), ((-1, 1), NIL)), accepts(("fails", WILD, "roots"), ()),
             accepts(("raises", EULER, TWO), (NIL, (ONE, (-3, 1)), ((-2, 1), NIL)))],
            [True, False, True, False, True, True],
        )


if __name__ == "__main__":
    unittest.main()
