"""Point 34: workshops, their names, rules and wishes, what is taken back, and trials."""

import inspect
import unittest
from fractions import Fraction
from random import Random

from legsteps import workshops
from legsteps.bests import backward, moulton
from legsteps.convergence import converges
from legsteps.errors import (
    Broken, InUse, InvalidIndex, InvalidName, InvalidRule, InvalidWish, NothingToUndo, StepError, UnknownName,
)
from legsteps.lefts import is_safe, is_safe_in
from legsteps.likes import multiplied
from legsteps.plains import keeps
from legsteps.reals import damps_all
from legsteps.rules import order_of
from legsteps.spots import point_word
from legsteps.workshops import Workshop
from samples import (
    BACK_EULER, EULER, FLAT, FRACTIONS, HALF, HALVES, HUGE, Hostile, LEAP, NIL, ODD_PAIRS, ODD_ROWS, ODD_VALUES, ONE, SLOW, Sly, THREE,
    TOUCHING, TWIN, TWO, WILD, rule_of, scaled,
)
from wrongs import ODD_ABOVE_0, ODD_POINTS, ODD_RULES, ORIGIN, WrongCase, odd_numbers

LEFT = ((-1, 1), NIL)
# None of these is a name.
ODD_NAMES = ODD_VALUES + ODD_PAIRS + FRACTIONS + (
    "", "A", "a ", " a", "a b", "a1", "1", "abcdefghijklm", "a" * 4000, "aB", "a-b", "a_b", "a:", "none!", "`", "{", b"a", b"abc", ["a"],
    ("a",), {"a": 1}, {"a"}, "a,b", "Z",
)
NAMES = ("a", "z", "ab", "names", "undo", "abcdefghijkl", "zzzzzzzzzzzz")
FORMS = (
    ("converges", "a"), ("order", "a", 2), ("damps", "a", LEFT), ("damps all", "a"), ("safe", "a"), ("safe in", "a", ONE),
    ("keeps", "a", ONE),
)
# None of these has the form of a wish with right parts.
ODD_WISHES = ODD_VALUES + ODD_PAIRS + ODD_ROWS + FRACTIONS + tuple(list(each) for each in FORMS) + tuple(
    each + (None,) for each in FORMS) + tuple(each[:-1] for each in FORMS) + tuple(
    (each[0], name) + each[2:] for each in FORMS for name in ODD_NAMES) + tuple(
    (word,) + each[1:] for each in FORMS for word in ("", "Safe", "safe ", " safe", "unsafe", "keep", b"safe", 1, None, ("safe",), ["safe"], Sly(), Hostile())
) + tuple(("order", "a", odd) for odd in odd_numbers(0, 16)) + tuple(("damps", "a", odd) for odd in ODD_POINTS) + tuple(
    (word, "a", odd) for word in ("safe in", "keeps") for odd in ODD_ABOVE_0) + (
    ("converges", "a", "a"), ("safe", "a", ONE), ("damps all", "a", ONE), ("order", "a"), ("damps", "a"), ("safe in", "a"), ("keeps", "a"),
    ("order", "a", ONE), ("order", "a", 2, 2), ("damps", "a", ONE), ("damps", "a", -1), ("safe in", "a", 1), ("keeps", "a", (2, 2)),
    ("converges",), (), ("a", "converges"), ("fails", "a"), ("alike", "a", "a"),
)


def holds_by_hand(wish, rule):
    word, last = wish[0], wish[-1]
    told = {
        "converges": lambda: converges(rule), "order": lambda: order_of(rule) >= last, "damps": lambda: point_word(rule, last) == "damped",
        "damps all": lambda: damps_all(rule), "safe": lambda: is_safe(rule), "safe in": lambda: is_safe_in(rule, last),
        "keeps": lambda: keeps(rule, last),
    }
    return told[word]()


class Halt(Exception):
    """An error of the tests' own."""


class ShopCase(WrongCase):

    def state(self, shop):
        return (shop.names, tuple(shop.named(name) for name in shop.names), shop.wishes, len(shop))

    def check_refused(self, shop, kind, told, method, *given, **named):
        """The error is raised, with what it keeps, and nothing has changed."""
        before = self.state(shop)
        check = self.check_index if kind in (InUse, Broken) else self.check_raises
        check(kind, told, method, *given, **named)
        self.assertEqual(self.state(shop), before)
        self.check_holds(shop)

    def check_holds(self, shop):
        for wish in shop.wishes:
            self.assertTrue(holds_by_hand(wish, shop.named(wish[1])), wish)

    def shop_of(self, *wishes, **rules):
        shop = Workshop()
        for name, rule in rules.items():
            self.assertIsNone(shop.put(name, rule))
        for wish in wishes:
            self.assertIsNone(shop.wish(wish))
        self.check_holds(shop)
        return shop


class Rules(ShopCase):

    def test_an_empty_one(self):
        shop = Workshop()
        self.assertEqual(self.state(shop), ((), (), (), 0))
        self.assertNotIn("a", shop)
        self.check_bare(NothingToUndo, shop.undo)

    def test_put_and_named(self):
        shop = Workshop()
        for at, name in enumerate(NAMES):
            self.assertNotIn(name, shop)
            self.assertIsNone(shop.put(name, HALVES))
            self.assertIn(name, shop)
            self.assertEqual(shop.named(name), HALVES)
            self.assertEqual(shop.named(name=name), HALVES)
            self.assertEqual(len(shop), at + 1)
        self.assertEqual(shop.names, tuple(sorted(NAMES)))
        shop.put(rule=TWIN, name="ab")
        self.assertEqual([shop.named("ab"), shop.named("a"), shop.names], [TWIN, HALVES, tuple(sorted(NAMES))])

    def test_what_is_there_already_counts(self):
        shop = self.shop_of(("safe", "a"), a=HALVES)
        shop.put("a", HALVES)
        shop.wish(("safe", "a"))
        self.assertEqual(self.state(shop), (("a",), (HALVES,), (("safe", "a"),) * 2, 4))
        shop.undo()
        self.assertEqual(self.state(shop), (("a",), (HALVES,), (("safe", "a"),), 3))
        shop.undo()
        self.assertEqual(self.state(shop), (("a",), (HALVES,), (("safe", "a"),), 2))

    def test_drop(self):
        shop = self.shop_of(a=EULER, b=LEAP)
        self.assertIsNone(shop.drop("a"))
        self.assertEqual(self.state(shop), (("b",), (LEAP,), (), 3))
        self.check_refused(shop, UnknownName, "a", shop.drop, "a")
        shop.drop(name="b")
        self.assertEqual(self.state(shop), ((), (), (), 4))

    def test_drop_of_what_is_named_by_a_wish(self):
        shop = self.shop_of(("converges", "b"), ("safe", "a"), ("converges", "a"), a=HALVES, b=LEAP, c=TWIN)
        self.check_refused(shop, InUse, 1, shop.drop, "a")
        self.check_refused(shop, InUse, 0, shop.drop, "b")
        shop.lift(1)
        self.check_refused(shop, InUse, 1, shop.drop, "a")
        shop.lift(1)
        shop.drop("a")
        shop.drop("c")
        self.assertEqual(shop.names, ("b",))

    def test_values_of_any_sort_as_names(self):
        shop = self.shop_of(a=EULER, ab=LEAP)
        for odd in ODD_NAMES:
            self.assertIs(odd in shop, False)
            self.check_refused(shop, UnknownName, odd, shop.drop, odd)
            self.check_refused(shop, UnknownName, odd, shop.named, odd)
            self.check_refused(shop, InvalidName, odd, shop.put, odd, EULER)
            self.check_refused(shop, InvalidName, odd, shop.put, rule=[], name=odd)
        for name in ("b", "abc", "names", "zzzzzzzzzzzz"):
            self.assertIs(name in shop, False)
            self.check_refused(shop, UnknownName, name, shop.drop, name)
            self.check_refused(shop, UnknownName, name, shop.named, name)
        self.assertIs("ab" in shop, True)

    def test_what_is_no_rule(self):
        shop = self.shop_of(("safe", "a"), a=HALVES)
        for odd in ODD_RULES:
            self.check_refused(shop, InvalidRule, odd, shop.put, "a", odd)
            self.check_refused(shop, InvalidRule, odd, shop.put, rule=odd, name="b")

    def test_great_numbers(self):
        rule = multiplied(rule_of((-HUGE, HUGE), (HUGE, 0)), ((1, HUGE), (HUGE, 1)))
        shop = self.shop_of(("converges", "a"), ("order", "a", 1), a=rule)
        self.assertEqual(shop.named("a"), rule)
        self.check_refused(shop, Broken, 0, shop.put, "a", multiplied(rule, ((-HUGE, 1), ONE)))


class Wishes(ShopCase):

    # For each form one rule that it holds for, and one for which it does not.
    CASES = (
        (("converges", "a"), LEAP, WILD), (("converges", "a"), EULER, SLOW), (("order", "a", 2), HALVES, EULER),
        (("order", "a", 0), SLOW, FLAT), (("order", "a", 3), WILD, LEAP), (("order", "a", 1), EULER, SLOW),
        (("damps", "a", LEFT), EULER, LEAP),
        (("damps", "a", ((-1, 1), HALF)), EULER, rule_of((-1, 1), (2, 0))), (("damps", "a", (ONE, NIL)), scaled(rule_of((1, 3), (0, 0)), -2), BACK_EULER),
        (("damps all", "a"), BACK_EULER, EULER), (("damps all", "a"), TWIN, TOUCHING), (("safe", "a"), TWIN, THREE), (("safe", "a"), HALVES, LEAP),
        (("safe in", "a", (14, 1)), THREE, EULER), (("safe in", "a", (15, 1)), HALVES, THREE), (("keeps", "a", ONE), EULER, SLOW),
        (("keeps", "a", TWO), HALVES, EULER), (("keeps", "a", (HUGE, 1)), BACK_EULER, HALVES),
    )

    def test_each_form(self):
        for wish, good, bad in self.CASES:
            shop = self.shop_of(a=good)
            self.assertIsNone(shop.wish(wish))
            self.assertEqual(self.state(shop), (("a",), (good,), (wish,), 2))
            self.check_refused(shop, Broken, 0, shop.put, "a", bad)
            shop.put("b", bad)
            shop.put("a", scaled(good, Fraction(-3, 7)))
            shop = self.shop_of(a=bad)
            self.check_refused(shop, Broken, 0, shop.wish, wish)
            shop.put("a", good)
            shop.wish(wish=wish)
            self.assertEqual(shop.wishes, (wish,))

    def test_orders_from_0_to_16(self):
        rule = moulton(8)
        self.assertEqual(order_of(rule), 9)
        shop = self.shop_of(a=rule)
        for number in range(17):
            if number <= 9:
                shop.wish(("order", "a", number))
            else:
                self.check_refused(shop, Broken, 10, shop.wish, ("order", "a", number))
        self.assertEqual(len(shop), 11)
        self.check_refused(shop, Broken, 9, shop.put, "a", backward(8))
        self.check_refused(shop, Broken, 0, shop.put, "a", FLAT)
        shop.lift(9)
        shop.put("a", backward(8))

    def test_the_first_wish_that_would_not_hold(self):
        shop = self.shop_of(
            ("converges", "b"), ("order", "a", 1), ("safe", "a"), ("damps", "b", LEFT), ("keeps", "a", ONE), a=BACK_EULER, b=EULER,
        )
        self.check_refused(shop, Broken, 2, shop.put, "a", EULER)
        self.check_refused(shop, Broken, 1, shop.put, "a", SLOW)
        self.check_refused(shop, Broken, 3, shop.put, "b", LEAP)
        self.check_refused(shop, Broken, 0, shop.put, "b", FLAT)
        self.check_refused(shop, Broken, 4, shop.put, "a", TWIN)
        self.check_refused(shop, Broken, 5, shop.wish, ("safe", "b"))
        shop.put("b", BACK_EULER)
        shop.wish(("safe", "b"))
        self.assertEqual(len(shop.wishes), 6)

    def test_wishes_hang_on_their_own_rule_alone(self):
        shop = self.shop_of(("safe", "b"), a=HALVES, b=TWIN, c=EULER)
        for rule in (WILD, FLAT, EULER):
            for name in ("a", "c", "d"):
                shop.put(name, rule)
        self.check_refused(shop, Broken, 0, shop.put, "b", EULER)

    def test_lift(self):
        wishes = tuple(("order", "a", number) for number in (2, 0, 1))
        shop = self.shop_of(*wishes, a=HALVES)
        self.assertIsNone(shop.lift(1))
        self.assertEqual(shop.wishes, (wishes[0], wishes[2]))
        shop.lift(index=0)
        self.assertEqual(shop.wishes, (wishes[2],))
        shop.lift(0)
        self.assertEqual((shop.wishes, len(shop)), ((), 7))
        self.check_refused(shop, InvalidIndex, 0, shop.lift, 0)

    def test_what_is_no_index(self):
        shop = self.shop_of(("safe", "a"), ("converges", "a"), a=HALVES)
        for odd in odd_numbers(0, 1) + [-1, -2, 2, "0", (0,), 10 ** 30]:
            self.check_refused(shop, InvalidIndex, odd, shop.lift, odd)
            self.check_refused(shop, InvalidIndex, odd, shop.lift, index=odd)

    def test_what_is_no_wish(self):
        shop = self.shop_of(("safe", "a"), a=HALVES)
        for odd in ODD_WISHES:
            self.check_refused(shop, InvalidWish, odd, shop.wish, odd)
            self.check_refused(shop, InvalidWish, odd, shop.wish, wish=odd)
        self.assertTrue(len(ODD_WISHES) > 600)

    def test_a_name_that_is_none_here(self):
        shop = self.shop_of(("safe", "b"), b=HALVES)
        for wish in FORMS:
            self.check_refused(shop, UnknownName, "a", shop.wish, wish)
        for wish in FORMS:
            if wish[0] != "keeps":
                shop.wish(wish[:1] + ("b",) + wish[2:])


class Undo(ShopCase):

    def test_each_kind_of_change(self):
        shop = Workshop()
        states = [self.state(shop)]
        for change in (
            lambda: shop.put("a", HALVES), lambda: shop.put("b", EULER), lambda: shop.wish(("safe", "a")), lambda: shop.wish(("order", "a", 2)),
            lambda: shop.put("a", TWIN), lambda: shop.lift(0), lambda: shop.wish(("converges", "b")), lambda: shop.lift(1),
            lambda: shop.drop("b"), lambda: shop.put("a", WILD), lambda: shop.put("b", LEAP), lambda: shop.lift(0), lambda: shop.drop("a"),
        ):
            self.assertIsNone(change())
            self.check_holds(shop)
            states.append(self.state(shop))
        self.assertEqual([each[3] for each in states], list(range(14)))
        while len(states) > 1:
            self.assertEqual(self.state(shop), states.pop())
            self.assertIsNone(shop.undo())
            self.check_holds(shop)
        self.assertEqual(self.state(shop), ((), (), (), 0))
        self.check_bare(NothingToUndo, shop.undo)
        self.assertEqual(self.state(shop), ((), (), (), 0))

    def test_changes_after_an_undo(self):
        shop = self.shop_of(a=EULER, b=LEAP)
        shop.undo()
        shop.put("c", TWIN)
        shop.undo()
        shop.undo()
        self.check_bare(NothingToUndo, shop.undo)
        shop.put("a", HALVES)
        self.assertEqual(self.state(shop), (("a",), (HALVES,), (), 1))

    def test_what_raises_is_no_change(self):
        shop = self.shop_of(("safe", "a"), a=HALVES)
        self.check_refused(shop, Broken, 0, shop.put, "a", EULER)
        self.check_refused(shop, InUse, 0, shop.drop, "a")
        self.check_refused(shop, InvalidIndex, 1, shop.lift, 1)
        self.check_refused(shop, Broken, 1, shop.wish, ("order", "a", 3))
        shop.undo()
        self.assertEqual(self.state(shop), (("a",), (HALVES,), (), 1))

    def test_a_value_told_before_stays_as_it_was(self):
        shop = self.shop_of(("safe", "a"), a=HALVES)
        names, wishes = shop.names, shop.wishes
        shop.lift(0)
        shop.put("b", EULER)
        self.assertEqual((names, wishes), (("a",), (("safe", "a"),)))
        self.assertEqual((shop.names, shop.wishes), (("a", "b"), ()))


class Trials(ShopCase):

    def test_one_that_ends_well(self):
        shop = self.shop_of(a=EULER)
        with shop.trial() as same:
            self.assertIs(same, shop)
            same.put("b", HALVES)
            shop.wish(("safe", "b"))
        self.assertEqual(self.state(shop), (("a", "b"), (EULER, HALVES), (("safe", "b"),), 3))
        # Each change by itself.
        shop.undo()
        self.assertEqual(self.state(shop), (("a", "b"), (EULER, HALVES), (), 2))
        shop.undo()
        self.assertEqual(self.state(shop), (("a",), (EULER,), (), 1))

    def test_one_that_ends_with_an_exception(self):
        for error in (Halt(), StepError(), ValueError("x"), KeyboardInterrupt(), GeneratorExit(), AssertionError()):
            shop = self.shop_of(("safe", "a"), a=HALVES)
            before = self.state(shop)
            with self.assertRaises(error.__class__) as caught:
                with shop.trial():
                    shop.put("b", EULER)
                    shop.lift(0)
                    shop.drop("a")
                    self.assertEqual(shop.names, ("b",))
                    raise error
            self.assertIs(caught.exception, error)
            self.assertEqual(self.state(shop), before)
            shop.undo()
            self.assertEqual(self.state(shop), (("a",), (HALVES,), (), 1))
            shop.undo()
            self.check_bare(NothingToUndo, shop.undo)

    def test_errors_of_the_workshop(self):
        shop = self.shop_of(("safe", "a"), a=HALVES)
        before = self.state(shop)
        with self.assertRaises(Broken) as caught:
            with shop.trial():
                shop.put("b", EULER)
                shop.put("a", EULER)
        self.assertEqual(caught.exception.index, 0)
        self.assertEqual(self.state(shop), before)
        # What is caught within the block does not end it.
        with shop.trial():
            shop.put("b", EULER)
            self.check_index(Broken, 0, shop.put, "a", EULER)
        self.assertEqual(shop.names, ("a", "b"))

    def test_one_that_is_only_called(self):
        shop = self.shop_of(a=EULER)
        before = self.state(shop)
        value = shop.trial()
        self.assertEqual(self.state(shop), before)
        shop.put("b", LEAP)
        with self.assertRaises(Halt):
            with value:
                shop.put("c", LEAP)
                raise Halt
        # It begins with the statement, not with the call.
        self.assertEqual(self.state(shop), (("a", "b"), (EULER, LEAP), (), 2))

    def test_one_value_for_several_statements(self):
        shop = Workshop()
        value = shop.trial()
        for name, fails in (("a", False), ("b", True), ("c", False), ("d", True)):
            before = self.state(shop)
            try:
                with value as same:
                    self.assertIs(same, shop)
                    shop.put(name, EULER)
                    if fails:
                        raise Halt
            except Halt:
                self.assertEqual(self.state(shop), before)
        self.assertEqual(self.state(shop), (("a", "c"), (EULER, EULER), (), 2))

    def nest(self, shop, outer, inner, fails):
        """Puts a, then b within, then c; `fails` tells in which of the three blocks an exception is raised."""
        with outer:
            shop.put("a", EULER)
            try:
                with inner:
                    shop.put("b", EULER)
                    if "inner" in fails:
                        raise Halt
            except Halt:
                if "through" in fails:
                    raise
            shop.put("c", EULER)
            if "outer" in fails:
                raise Halt

    def test_one_within_another(self):
        for is_same in (False, True):
            for fails, names in (
                ((), ("a", "b", "c", "x")), (("inner",), ("a", "c", "x")), (("inner", "through"), ("x",)), (("outer",), ("x",)),
                (("inner", "outer"), ("x",)),
            ):
                shop = self.shop_of(x=LEAP)
                outer = shop.trial()
                inner = outer if is_same else shop.trial()
                try:
                    self.nest(shop, outer, inner, fails)
                    self.assertGreater(len(names), 1)
                except Halt:
                    self.assertEqual(names, ("x",))
                self.assertEqual(shop.names, names)
                self.assertEqual(len(shop), len(names))
                # The value serves again.
                self.nest(shop, outer, inner, ())
                self.assertEqual((shop.names, len(shop)), (("a", "b", "c", "x"), len(names) + 3))

    def test_one_value_three_times_within_itself(self):
        shop = Workshop()
        value = shop.trial()
        with self.assertRaises(Halt):
            with value:
                shop.put("a", EULER)
                with value:
                    shop.put("b", EULER)
                    with value:
                        shop.put("c", EULER)
                    self.assertEqual(shop.names, ("a", "b", "c"))
                    raise Halt
        self.assertEqual(self.state(shop), ((), (), (), 0))
        with value:
            shop.put("a", EULER)
            with self.assertRaises(Halt):
                with value:
                    with value:
                        shop.put("b", EULER)
                    with value:
                        shop.put("c", EULER)
                    raise Halt
        self.assertEqual(self.state(shop), (("a",), (EULER,), (), 1))

    def test_what_is_taken_back_within_a_trial(self):
        shop = self.shop_of(("safe", "a"), a=HALVES, b=EULER)
        before = self.state(shop)
        with self.assertRaises(Halt):
            with shop.trial():
                shop.put("c", LEAP)
                for _ in range(4):
                    shop.undo()
                self.assertEqual(self.state(shop), ((), (), (), 0))
                self.check_bare(NothingToUndo, shop.undo)
                shop.put("z", LEAP)
                raise Halt
        self.assertEqual(self.state(shop), before)
        for told in ((("a", "b"), (HALVES, EULER), (), 2), (("a",), (HALVES,), (), 1), ((), (), (), 0)):
            shop.undo()
            self.assertEqual(self.state(shop), told)

    def test_what_is_taken_back_within_a_trial_that_ends_well(self):
        shop = self.shop_of(a=HALVES, b=EULER)
        with shop.trial():
            shop.undo()
            shop.undo()
            shop.put("c", LEAP)
        self.assertEqual(self.state(shop), (("c",), (LEAP,), (), 1))
        shop.undo()
        self.check_bare(NothingToUndo, shop.undo)

    def test_left_by_return_break_and_continue(self):
        shop = Workshop()

        def put_and_return():
            with shop.trial():
                shop.put("a", EULER)
                return 7

        self.assertEqual(put_and_return(), 7)
        for name in ("b", "c"):
            with shop.trial():
                shop.put(name, EULER)
                continue
        while True:
            with shop.trial():
                shop.put("d", EULER)
                break
        self.assertEqual(shop.names, ("a", "b", "c", "d"))

    def test_tried(self):
        shop = self.shop_of(a=EULER)
        told = []

        def action(given):
            told.append(given)
            given.put("b", HALVES)
            return (1, "x")

        self.assertEqual(shop.tried(action), (1, "x"))
        self.assertEqual(shop.tried(action=action), (1, "x"))
        self.assertTrue(all(each is shop for each in told) and len(told) == 2)
        self.assertEqual(self.state(shop), (("a", "b"), (EULER, HALVES), (), 3))
        self.assertIsNone(shop.tried(lambda given: None))
        self.assertIs(shop.tried(lambda given: given), shop)

    def test_tried_that_fails(self):
        shop = self.shop_of(a=EULER)
        before = self.state(shop)
        error = Halt()

        def action(given):
            given.drop("a")
            given.put("b", HALVES)
            raise error

        with self.assertRaises(Halt) as caught:
            shop.tried(action)
        self.assertIs(caught.exception, error)
        self.assertEqual(self.state(shop), before)
        with self.assertRaises(UnknownName):
            shop.tried(lambda given: (given.put("b", EULER), given.drop("c")))
        self.assertEqual(self.state(shop), before)
        # One within another.
        with self.assertRaises(Halt):
            shop.tried(lambda given: (given.put("c", EULER), given.tried(action)))
        self.assertEqual(self.state(shop), before)

    def test_drawn_changes(self):
        random = Random(121)
        rules = (EULER, BACK_EULER, HALVES, LEAP, TWIN, WILD, FLAT)
        wishes = [(each[0], name) + each[2:] for each in FORMS for name in ("a", "b")]
        seen = {}

        def draw(shop, model, depth):
            """Some changes; the model is the list of all states, ahead of and with the last one."""
            for _ in range(random.randint(1, 9)):
                kind = random.choice(("put", "put", "put", "drop", "wish", "wish", "wish", "lift", "undo", "trial"))
                names, kept, told = dict(model[-1][0]), model[-1][1], None
                name, rule, wish, index = random.choice("ab"), random.choice(rules), random.choice(wishes), random.randint(0, 2)
                if kind == "put":
                    call = (shop.put, name, rule)
                    names[name] = rule
                    told = next(((Broken, at) for at, each in enumerate(kept) if each[1] == name and not holds_by_hand(each, rule)), None)
                elif kind == "drop":
                    call = (shop.drop, name)
                    told = next(((InUse, at) for at, each in enumerate(kept) if each[1] == name), None)
                    told = told if name in names else (UnknownName, name)
                    names.pop(name, None)
                elif kind == "wish":
                    call = (shop.wish, wish)
                    if wish[1] not in names:
                        told = (UnknownName, wish[1])
                    elif not holds_by_hand(wish, names[wish[1]]):
                        told = (Broken, len(kept))
                    kept = kept + (wish,)
                elif kind == "lift":
                    call = (shop.lift, index)
                    told = None if index < len(kept) else (InvalidIndex, index)
                    kept = kept[:index] + kept[index + 1:]
                elif kind == "undo":
                    call = (shop.undo,)
                    told = None if len(model) > 1 else (NothingToUndo, None)
                elif depth < 3:
                    copy, fails = list(model), random.random() < 0.5
                    try:
                        with shop.trial():
                            draw(shop, model, depth + 1)
                            if fails:
                                raise Halt
                    except Halt:
                        model[:] = copy
                    check(shop, model)
                    continue
                else:
                    continue
                seen[kind, told and told[0]] = True
                try:
                    call[0](*call[1:])
                    self.assertIsNone(told)
                    if kind == "undo":
                        model.pop()
                    else:
                        model.append((tuple(sorted(names.items())), kept))
                except StepError as error:
                    self.assertIs(error.__class__, told[0])
                    self.assertEqual(list(vars(error).values()), [] if told[1] is None else [told[1]])
                check(shop, model)

        def check(shop, model):
            names = dict(model[-1][0])
            self.assertEqual(self.state(shop), (tuple(sorted(names)), tuple(names[each] for each in sorted(names)), model[-1][1], len(model) - 1))

        for _ in range(150):
            shop = Workshop()
            draw(shop, [((), ())], 0)
            self.check_holds(shop)
        self.assertEqual(len(seen), 12)


class Objects(ShopCase):

    def test_equality_and_truth(self):
        shop, other = Workshop(), Workshop()
        for each in (shop, other, self.shop_of(a=EULER), shop.trial()):
            self.assertIs(bool(each), True)
            self.assertTrue(each == each and not each != each)
            for odd in (None, True, 0, 1, "", (), [], {}, object(), EULER, Workshop, StepError()):
                self.assertIs(each == odd, False)
                self.assertIs(each != odd, True)
        self.assertIs(shop == other, False)
        self.assertIs(shop != other, True)
        self.assertIs(shop.trial() == shop.trial(), False)
        self.assertIsNot(shop.trial(), shop.trial())

    def test_two_beside_one_another(self):
        shop, other = self.shop_of(("safe", "a"), a=HALVES), self.shop_of(a=EULER)
        with self.assertRaises(Halt):
            with shop.trial():
                with other.trial():
                    shop.lift(0)
                    other.put("b", LEAP)
                shop.put("a", WILD)
                raise Halt
        self.assertEqual(self.state(shop), (("a",), (HALVES,), (("safe", "a"),), 2))
        self.assertEqual(self.state(other), (("a", "b"), (EULER, LEAP), (), 2))
        other.undo()
        self.assertEqual(self.state(shop), (("a",), (HALVES,), (("safe", "a"),), 2))
        self.assertEqual(self.state(Workshop()), ((), (), (), 0))

    def test_equal_calls_return_equal_results(self):
        shop = self.shop_of(("safe", "a"), a=HALVES)
        self.assertEqual((shop.names, shop.wishes, shop.named("a"), len(shop)), (shop.names, shop.wishes, shop.named("a"), len(shop)))
        self.assertEqual(self.state(self.shop_of(("safe", "a"), a=HALVES)), self.state(shop))


class Interface(unittest.TestCase):

    def test_methods_stand_in_the_class_itself(self):
        told = {
            "put": ["self", "name", "rule"], "drop": ["self", "name"], "wish": ["self", "wish"], "lift": ["self", "index"],
            "named": ["self", "name"], "undo": ["self"], "trial": ["self"], "tried": ["self", "action"],
        }
        for name, parameters in told.items():
            self.assertIn(name, vars(Workshop))
            self.assertEqual(list(inspect.signature(vars(Workshop)[name]).parameters), parameters)
        for name in ("names", "wishes"):
            self.assertIsInstance(vars(Workshop)[name], property)
        for name in ("__len__", "__contains__", "__bool__"):
            self.assertIn(name, vars(Workshop))
        self.assertEqual(list(inspect.signature(Workshop).parameters), [])
        self.assertEqual((Workshop.__module__, workshops.Workshop), ("legsteps.workshops", Workshop))

    def test_the_examples_of_the_document(self):
        shop = Workshop()
        shop.put("tp", HALVES)
        self.assertIsNone(shop.wish(("safe", "tp")))
        with self.assertRaises(Broken) as caught:
            shop.put("tp", EULER)
        self.assertEqual((caught.exception.index, len(shop)), (0, 2))
        self.assertEqual(point_word(EULER, ((-2, 1), NIL)), "kept")
        self.assertEqual(point_word(HALVES, ORIGIN), "kept")


if __name__ == "__main__":
    unittest.main()
