"""Point 35: certificates, whose claims are so and whose papers the checker accepts."""

import inspect
import unittest
from fractions import Fraction

from legsteps import certificates
from legsteps.bests import adams, backward, moulton
from legsteps.certificates import (
    certify_convergence, certify_left, certify_likeness, certify_order, certify_pair, certify_ratio, certify_reals, certify_roots,
    certify_wedge, certify_word,
)
from legsteps.checker import accepts
from legsteps.convergence import why_not
from legsteps.errors import (
    InvalidNumber, InvalidPoint, InvalidPolynomial, InvalidRatio, InvalidRule, InvalidSlope, NotExplicit, UnlikeSteps,
)
from legsteps.lefts import is_safe, is_safe_in
from legsteps.likes import are_alike, multiplied
from legsteps.pairs import pair_word
from legsteps.plains import keeps
from legsteps.reals import damps_all
from legsteps.roots import root_counts
from legsteps.rules import order_of
from legsteps.spots import point_word
from samples import (
    BACK_EULER, EULER, FLAT, HALF, HALVES, HUGE, LEAP, NIL, ONE, SLOW, THREE, TOUCHING, TOUCHING_TWICE, TWIN, TWO, WILD, rule_of, scaled,
    some_polynomials, some_rules,
)
from wrongs import ODD_ABOVE_0, ODD_POINTS, ODD_POLYNOMIALS, ODD_RULES, ORIGIN, WrongCase, odd_numbers

RULES = (
    EULER, BACK_EULER, HALVES, LEAP, TWIN, WILD, FLAT, SLOW, THREE, adams(3), moulton(2), backward(4), backward(7), TOUCHING, TOUCHING_TWICE,
    rule_of((0, -2), (0, 1)), rule_of((1, 2), (0, 0)), rule_of((2, 1), (0, 0)), rule_of((-HUGE, HUGE), (1, Fraction(1, HUGE))),
) + tuple(some_rules(60, range(1, 6)))
POINTS = (ORIGIN, ((-1, 1), NIL), ((-2, 1), NIL), ((-1, 2), (7, 3)), (ONE, NIL), (NIL, ONE), ((-HUGE, 1), (1, HUGE)))


class Certified(unittest.TestCase):

    def check(self, function, arguments, told, *others):
        """The claim told is certified; the other ones are accepted neither with its paper nor with the empty one."""
        claim, paper = function(*arguments.values())
        self.assertEqual(function(**dict(reversed(list(arguments.items())))), (claim, paper))
        self.assertEqual(function(*arguments.values()).__class__, tuple)
        self.assertEqual(claim, told)
        self.assertIs(accepts(claim, paper), True)
        for other in others:
            self.assertIs(accepts(other, paper), False)
            self.assertIs(accepts(other, ()), False)
        return paper

    def test_roots(self):
        for polynomial in some_polynomials(80) + [(HALF,), (NIL, ONE), (ONE, NIL, ONE), ((HUGE, 1), (1, HUGE))]:
            if polynomial:
                inside, on, outside = root_counts(polynomial)
                others = [("roots", polynomial, each) for each in ((inside + 1, on, outside), (inside, on + 1, outside), (inside, on, outside + 1))]
                paper = self.check(certify_roots, {"polynomial": polynomial}, ("roots", polynomial, (inside, on, outside)), *others)
                self.assertEqual(paper, ())

    def test_convergence(self):
        seen = {}
        for rule in RULES:
            why = why_not(rule)
            seen[why] = True
            fails = {word: ("fails", rule, word) for word in ("level", "slope", "roots")}
            claims = {None: ("converges", rule), **fails}
            told = claims.pop(why)
            self.assertEqual(self.check(certify_convergence, {"rule": rule}, told, *claims.values()), ())
        self.assertEqual(len(seen), 4)

    def test_orders(self):
        for rule in RULES:
            order = order_of(rule)
            others = [("order", rule, each) for each in range(-2, 17) if each != order]
            self.assertEqual(self.check(certify_order, {"rule": rule}, ("order", rule, order), *others), ())

    def test_words(self):
        seen = {}
        for rule in RULES:
            for point in POINTS:
                word = point_word(rule, point)
                seen[word] = True
                others = [("word", rule, point, each) for each in ("lost", "damped", "kept", "grows") if each != word]
                self.assertEqual(self.check(certify_word, {"rule": rule, "point": point}, ("word", rule, point, word), *others), ())
        self.assertEqual(len(seen), 4)

    def check_both(self, function, arguments, is_so, claim, other):
        """One of two claims; the one that is so has the empty paper."""
        if is_so:
            self.assertEqual(self.check(function, arguments, claim, other), ())
            return ()
        return self.check(function, arguments, other, claim)

    def test_reals(self):
        papers = {}
        for rule in RULES:
            is_all = damps_all(rule)
            paper = self.check_both(certify_reals, {"rule": rule}, is_all, ("damps all", rule), ("misses", rule))
            if not is_all:
                papers[rule] = paper
                self.assertIs(accepts(("misses", rule), ()), paper == ())
        # It misses just one number, which is no fraction; of two ones just one is a fraction.
        self.assertEqual([rule for rule, paper in papers.items() if paper == ()], [TOUCHING])
        self.assertEqual(papers[TOUCHING_TWICE], (-39, 8))
        self.assertEqual(certify_reals(scaled(TOUCHING, Fraction(-1, 3)))[1], ())
        self.assertTrue(4 < len(papers) < len(RULES) - 4)

    def test_left(self):
        told = [self.check_both(certify_left, {"rule": rule}, is_safe(rule), ("safe", rule), ("unsafe", rule)) for rule in RULES]
        self.assertTrue(4 < told.count(()) < len(told) - 4)

    def test_wedges(self):
        for slope in (ONE, (14, 1), (15, 1), (1, HUGE)):
            told = []
            for rule in RULES:
                named = {"rule": rule, "slope": slope}
                claims = ("safe in", rule, slope), ("unsafe in", rule, slope)
                told.append(self.check_both(certify_wedge, named, is_safe_in(rule, slope), *claims))
            self.assertTrue(4 < told.count(()) < len(told) - 4)

    def test_ratios(self):
        for ratio in (ONE, TWO, (1, HUGE), (HUGE, 1)):
            told = []
            for rule in RULES:
                named = {"rule": rule, "ratio": ratio}
                told.append(self.check_both(certify_ratio, named, keeps(rule, ratio), ("keeps", rule, ratio), ("raises", rule, ratio)))
            self.assertTrue(0 < told.count(()) < len(told) - 4)

    def test_likeness(self):
        seen = {}
        for rule in RULES[:12]:
            for other in RULES[:8] + (multiplied(rule, (ONE, TWO)), scaled(rule, -2), (rule[0], rule[0])):
                is_so = are_alike(rule, other)
                seen[is_so] = True
                claims = [("alike", rule, other), ("not alike", rule, other)]
                told = claims.pop(0 if is_so else 1)
                self.assertEqual(self.check(certify_likeness, {"rule": rule, "other": other}, told, *claims), ())
        self.assertEqual(len(seen), 2)

    def test_pairs(self):
        seen = {}
        for rule, other in ((EULER, HALVES), (EULER, BACK_EULER), (LEAP, TWIN), (WILD, TWIN), (adams(3), moulton(3)), (SLOW, SLOW)):
            for corrections in (1, 2, 6):
                for point in POINTS:
                    word = pair_word(rule, other, corrections, point)
                    seen[word] = True
                    others = [("pair", rule, other, corrections, point, each) for each in ("damped", "kept", "grows", "lost") if each != word]
                    named = {"rule": rule, "other": other, "corrections": corrections, "point": point}
                    self.assertEqual(self.check(certify_pair, named, ("pair", *named.values(), word), *others), ())
        self.assertEqual(len(seen), 3)


class WrongInputs(WrongCase):

    GOOD = {
        certify_roots: {"polynomial": (ONE,)}, certify_convergence: {"rule": EULER}, certify_order: {"rule": EULER},
        certify_word: {"rule": EULER, "point": ORIGIN}, certify_reals: {"rule": EULER}, certify_left: {"rule": EULER},
        certify_wedge: {"rule": EULER, "slope": ONE}, certify_ratio: {"rule": EULER, "ratio": ONE},
        certify_likeness: {"rule": EULER, "other": LEAP}, certify_pair: {"rule": EULER, "other": HALVES, "corrections": 1, "point": ORIGIN},
    }
    BAD = {
        "polynomial": (InvalidPolynomial, ODD_POLYNOMIALS + ((),), ()), "rule": (InvalidRule, ODD_RULES, [EULER]),
        "other": (InvalidRule, ODD_RULES, [LEAP]), "point": (InvalidPoint, ODD_POINTS, NIL), "slope": (InvalidSlope, ODD_ABOVE_0, NIL),
        "ratio": (InvalidRatio, ODD_ABOVE_0, NIL), "corrections": (InvalidNumber, odd_numbers(1, 6), 7),
    }

    def test_each_parameter(self):
        for function, good in self.GOOD.items():
            for name in good:
                kind, odds, _ = self.BAD[name]
                self.check_odd(kind, odds, function, good, name)

    def test_the_order_of_the_checks(self):
        for function, good in self.GOOD.items():
            self.check_order(function, good, {name: (self.BAD[name][2], self.BAD[name][0], None) for name in good})

    def test_what_is_told_last_of_pairs(self):
        for rule, other, kind in ((EULER, LEAP, UnlikeSteps), (HALVES, LEAP, UnlikeSteps), (HALVES, EULER, NotExplicit), (TWIN, LEAP, NotExplicit)):
            self.check_bare(kind, certify_pair, rule, other, 1, ORIGIN)
            self.check_raises(InvalidNumber, 0, certify_pair, rule, other, 0, ORIGIN)
            self.check_raises(InvalidPoint, NIL, certify_pair, rule, other, 6, NIL)


class Interface(unittest.TestCase):

    def test_names_of_the_parameters(self):
        for function, good in WrongInputs.GOOD.items():
            self.assertEqual(list(inspect.signature(function).parameters), list(good))
            self.assertEqual(function.__module__, "legsteps.certificates")
            self.assertIs(getattr(certificates, function.__name__), function)

    def test_the_examples_of_the_document(self):
        double = multiplied(EULER, (ONE, ONE))
        self.assertEqual(
            [certify_convergence(FLAT)[0][2], certify_roots((ONE, NIL, ONE))[0][2], certify_left(LEAP)[0][0], certify_left(TWIN),
             certify_likeness(double, EULER)[0][0], certify_pair(EULER, HALVES, 1, ((-2, 1), NIL))[0][5]],
            ["level", (0, 2, 0), "unsafe", (("safe", (((1, 2), (-2, 1), (3, 2)), ((0, 1), (0, 1), (1, 1)))), ()), "alike", "kept"],
        )


if __name__ == "__main__":
    unittest.main()
