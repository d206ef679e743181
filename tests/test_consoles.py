"""Consoles: the forms of a line, their answers, and their errors; texts, orders, reasons and words (points 10, 12, 20, 34)."""

import inspect
import unittest
from fractions import Fraction
from random import Random

from legsteps import consoles
from legsteps.bests import adams, backward, moulton
from legsteps.consoles import Console
from legsteps.convergence import why_not
from legsteps.errors import Broken, InUse, InvalidPhrase, NotAWorkshop, NothingToUndo, UnknownName
from legsteps.rules import is_rule, order_of
from legsteps.spots import point_word
from legsteps.workshops import Workshop
from samples import (
    BACK_EULER, EULER, FLAT, FRACTIONS, HALF, HALVES, HUGE, LEAP, NIL, ODD_PAIRS, ODD_ROWS, ODD_VALUES, ONE, SLOW, THREE, TWIN, WILD,
    rule_of, some_rules,
)
from wrongs import WrongCase

RULES = (EULER, BACK_EULER, HALVES, LEAP, TWIN, WILD, FLAT, SLOW, THREE, adams(8), moulton(3), backward(5), rule_of((-HUGE, 1), (Fraction(1, HUGE), 0)))


def text_of(row):
    return " ".join(f"{n}/{m}" for n, m in row)


def rule_text(rule):
    return text_of(rule[0]) + "; " + text_of(rule[1])


class ConsoleCase(WrongCase):

    def state(self, shop):
        return (shop.names, tuple(shop.named(name) for name in shop.names), shop.wishes, len(shop))

    def check_refused(self, console, shop, kind, told, line):
        before = self.state(shop)
        for call in ((lambda: console.say(line)), (lambda: console.say(line=line))):
            if kind is NothingToUndo:
                self.check_bare(kind, call)
            elif kind in (InUse, Broken):
                self.check_index(kind, told, call)
            else:
                with self.assertRaises(kind) as caught:
                    call()
                self.assertIs(caught.exception.__class__, kind)
                if kind is InvalidPhrase:
                    self.assertIs(caught.exception.given, line)
                else:
                    self.assertEqual(caught.exception.given, told)
            self.assertEqual(self.state(shop), before)

    def made(self, **rules):
        shop = Workshop()
        for name, rule in rules.items():
            shop.put(name, rule)
        return Console(shop), shop


class Answers(ConsoleCase):

    def test_put_and_rule(self):
        for rule in RULES + tuple(some_rules(30, range(1, 9))):
            console, shop = self.made()
            self.assertEqual(console.say("put a: " + rule_text(rule)), "done")
            self.assertEqual((shop.named("a"), len(shop)), (rule, 1))
            self.assertEqual(console.say("rule a"), rule_text(rule))
            # What it told is passed on.
            self.assertEqual(console.say("put bcd: " + console.say("rule a")), "done")
            self.assertEqual(shop.named("bcd"), rule)
            self.assertEqual(len(shop), 2)

    def test_put_in_the_place_of_another_one(self):
        console, shop = self.made(a=EULER)
        self.assertEqual(console.say(line="put a: -1/1 1/1; 1/2 1/2"), "done")
        self.assertEqual(shop.named("a"), HALVES)
        self.assertEqual(console.say("put a: -1/1 1/1; 1/2 1/2"), "done")
        self.assertEqual(len(shop), 3)

    def test_fractions(self):
        for fraction in FRACTIONS:
            rule = ((fraction, ONE), (ONE, fraction))
            console, shop = self.made()
            console.say("put a: " + rule_text(rule))
            self.assertEqual(shop.named("a"), rule)
            self.assertEqual(console.say("rule a"), rule_text(rule))

    def test_drop_and_undo(self):
        console, shop = self.made(a=EULER, b=LEAP)
        self.assertEqual(console.say("drop a"), "done")
        self.assertEqual((shop.names, len(shop)), (("b",), 3))
        self.assertEqual(console.say("undo"), "done")
        self.assertEqual((shop.names, len(shop)), (("a", "b"), 2))
        self.assertEqual([console.say("undo"), console.say("undo")], ["done", "done"])
        self.assertEqual(self.state(shop), ((), (), (), 0))

    def test_names(self):
        console, shop = self.made()
        self.assertEqual(console.say("names"), "none")
        shop.put("undo", EULER)
        self.assertEqual(console.say("names"), "undo")
        for name in ("b", "a", "none", "ab", "zzzzzzzzzzzz", "names"):
            shop.put(name, EULER)
        self.assertEqual(console.say("names"), "a ab b names none undo zzzzzzzzzzzz")
        self.assertEqual(console.say("order names"), "1")
        self.assertEqual(console.say("drop undo"), "done")
        self.assertEqual(console.say("rule none"), rule_text(EULER))

    def test_orders(self):
        for rule in RULES + (rule_of((1, 1), (0, 0)), rule_of((-1, 1), (0, 0))) + tuple(some_rules(20)):
            console, _ = self.made(a=rule)
            self.assertEqual(console.say("order a"), str(order_of(rule)))
        self.assertEqual([self.made(a=rule)[0].say("order a") for rule in (FLAT, SLOW, EULER, adams(8))], ["-1", "0", "1", "8"])

    def test_reasons(self):
        for rule in RULES + tuple(some_rules(20)):
            console, _ = self.made(a=rule)
            self.assertEqual(console.say("why a"), why_not(rule) or "converges")
        self.assertEqual([self.made(a=rule)[0].say("why a") for rule in (FLAT, SLOW, WILD, EULER)], ["level", "slope", "roots", "converges"])

    def test_words(self):
        points = ((NIL, NIL), (ONE, NIL), ((-2, 1), NIL), ((-1, 1), HALF), (NIL, (-1, 1)), ((-HUGE, 3), (1, HUGE)), ((3, 2), NIL))
        seen = {}
        for rule in RULES:
            console, _ = self.made(a=rule)
            for point in points:
                word = point_word(rule, point)
                seen[word] = True
                self.assertEqual(console.say("word a: " + text_of(point)), word)
        self.assertEqual(sorted(seen), ["damped", "grows", "kept", "lost"])

    def test_questions_change_nothing(self):
        console, shop = self.made(a=HALVES, b=EULER)
        shop.wish(("safe", "a"))
        before = self.state(shop)
        for line in ("names", "rule a", "order b", "why a", "word b: 0/1 0/1"):
            self.assertEqual(console.say(line), console.say(line))
            self.assertEqual(self.state(shop), before)

    def test_names_up_to_twelve_letters(self):
        console, shop = self.made()
        for length in range(1, 13):
            name = "abcdefghijklm"[:length]
            self.assertEqual(console.say(f"put {name}: -1/1 1/1; 1/1 0/1"), "done")
            self.assertEqual(console.say(f"why {name}"), "converges")
            self.assertEqual(console.say(f"word {name}: -1/1 0/1"), "damped")
        self.assertEqual(len(shop), 12)


class Lines(ConsoleCase):

    GOOD = (
        "put a: -1/1 1/1; 1/2 1/2", "drop a", "undo", "names", "rule a", "order a", "why a", "word a: -2/1 0/1", "put b: 1/2 0/1 -3/7; 0/1 0/1 0/1",
    )

    def check_phrase(self, line):
        console, shop = self.made(a=HALVES, b=EULER)
        self.check_refused(console, shop, InvalidPhrase, None, line)
        # Ahead of all else, also where there is nothing that the line could be about.
        console, shop = self.made()
        self.check_refused(console, shop, InvalidPhrase, None, line)

    def test_the_good_ones(self):
        for line in self.GOOD:
            console, _ = self.made(a=HALVES, b=EULER)
            self.assertIsInstance(console.say(line), str)

    def test_values_that_are_no_strings(self):
        for odd in ODD_VALUES + ODD_PAIRS + ODD_ROWS:
            self.check_phrase(odd)
        for line in self.GOOD:
            for odd in (line.encode(), [line], (line,), list(line), {line: 1}):
                self.check_phrase(odd)

    def test_signs_more_or_less(self):
        for line in self.GOOD:
            for at in range(len(line) + 1):
                if at < len(line):
                    self.check_unless_good(line[:at] + line[at + 1:])
                for sign in " :;/-+0a1.,\"'()A_":
                    self.check_unless_good(line[:at] + sign + line[at:])
                    if at < len(line):
                        self.check_unless_good(line[:at] + sign + line[at + 1:])

    def check_unless_good(self, line):
        if not is_line(line):
            self.check_phrase(line)
        else:
            console, _ = self.made()
            try:
                self.assertIsInstance(console.say(line), str)
            except (UnknownName, NothingToUndo):
                pass

    def test_blanks(self):
        for line in self.GOOD:
            for odd in (line + " ", " " + line, line.replace(" ", "  "), line.replace(" ", "", 1), line + "  ", line.replace(": ", ":"),
                        line.replace(": ", " : "), line.replace("; ", ";"), line.replace("; ", " ; "), line.replace("; ", ": ")):
                if odd != line:
                    self.check_phrase(odd)

    def test_words_and_names(self):
        for line in ("", " ", "put", "drop", "rule", "order", "why", "word", "put ", "drop ", "put: ", "undo a", "names a", "undo undo", "name",
                     "Undo", "NAMES", "Drop a", "put a", "put a: ", "put a:", "word a", "word a: ", "drop a: ", "rule a: 1/1", "order a: a", "why a: ",
                     "undo: ", "names: ", "drop a b", "rule a a", "drop A", "drop a1", "drop -", "rule abcdefghijklm", "order abcdefghijklm",
                     "put abcdefghijklm: -1/1 1/1; 1/1 0/1", "word abcdefghijklm: 0/1 0/1", "put A: -1/1 1/1; 1/1 0/1", "put a b: -1/1 1/1; 1/1 0/1",
                     "wish safe a", "lift 0", "named a", "len", "a", "none", "done", "put a: rule b", "drop " + "a" * 3000):
            self.check_phrase(line)

    def test_numbers(self):
        for odd in ("1", "-1", "2/2", "2/4", "0/2", "0/-1", "-0/1", "1/-1", "-1/-1", "1/0", "0/0", "01/1", "1/01", "+1/1", "1/+1", "--1/1", "1//1", "1/1/1",
                    "/1", "1/", "/", "1/ 1", "1 /1", "1.0/1", "1/1.0", "a/1", "1/a", "1_0/1", "1e1/1", "0x1/1", "", "-", "(1/1)", "1/1,", "-/1", "00/1",
                    "1/1-", "1-1/1", "- 1/1"):
            for line in (f"put a: {odd} 1/1; 1/1 0/1", f"put a: -1/1 {odd}; 1/1 0/1", f"put a: -1/1 1/1; {odd} 0/1", f"put a: -1/1 1/1; 1/1 {odd}",
                         f"word a: {odd} 0/1", f"word a: 0/1 {odd}"):
                self.check_phrase(line)

    def test_numbers_that_make_no_rule(self):
        for line in ("put a: 1/1; 1/1", "put a: 1/1 1/1; 1/1", "put a: 1/1; 1/1 1/1", "put a: 1/1 0/1; 1/1 1/1", "put a: 0/1 0/1; 0/1 0/1",
                     "put a: 1/1 1/1", "put a: 1/1 1/1; ", "put a: ; 1/1 1/1", "put a: ; ", "put a: 1/1 1/1; 1/1 1/1; 1/1 1/1",
                     "put a: 1/1 1/1 1/1; 1/1 1/1", "put a: " + text_of([ONE] * 10) + "; " + text_of([ONE] * 10),
                     "put a: " + text_of([ONE] * 8 + [NIL]) + "; " + text_of([ONE] * 9)):
            self.check_phrase(line)
        console, _ = self.made()
        self.assertEqual(console.say("put a: " + text_of([ONE] * 9) + "; " + text_of([NIL] * 9)), "done")

    def test_points_with_numbers_more_or_less(self):
        for line in ("word a: 0/1", "word a: 0/1 0/1 0/1", "word a: 0/1; 0/1", "word a: (0/1 0/1)", "word a: 0/1, 0/1", "word a: 1 0"):
            self.check_phrase(line)


def is_number(text):
    try:
        return str(int(text)) == text
    except ValueError:
        return False


def fractions_by_hand(text):
    found = []
    for each in text.split(" "):
        row = each.split("/")
        if len(row) != 2 or not is_number(row[0]) or not is_number(row[1]) or int(row[1]) < 1:
            return None
        if Fraction(int(row[0]), int(row[1])).as_integer_ratio() != (int(row[0]), int(row[1])):
            return None
        found.append((int(row[0]), int(row[1])))
    return tuple(found)


def is_line(line):
    """Whether the line is one of the told forms, by another way."""
    words = line.split(" ")
    if line in ("undo", "names"):
        return True
    if len(words) < 2:
        return False
    name = words[1] if words[0] in ("drop", "rule", "order", "why") else words[1][:-1]
    if not (1 <= len(name) <= 12 and name.isascii() and name.isalpha() and name.islower()):
        return False
    if words[0] in ("drop", "rule", "order", "why"):
        return len(words) == 2
    if words[0] not in ("put", "word") or words[1][-1] != ":" or len(words) < 3:
        return False
    tail = line[len(words[0]) + len(words[1]) + 2:]
    if words[0] == "word":
        found = fractions_by_hand(tail)
        return found is not None and len(found) == 2
    rows = [fractions_by_hand(each) for each in tail.split("; ")]
    return is_rule(tuple(rows))


class Errors(ConsoleCase):

    def test_unknown_names(self):
        console, shop = self.made(b=EULER)
        for line in ("drop a", "rule a", "order a", "why a", "word a: 0/1 0/1"):
            self.check_refused(console, shop, UnknownName, "a", line)
            self.check_refused(console, shop, UnknownName, "abcdefghijkl", line.replace(" a", " abcdefghijkl"))
        shop.drop("b")
        self.check_refused(console, shop, UnknownName, "b", "drop b")

    def test_errors_of_the_workshop_are_passed_on(self):
        console, shop = self.made(a=HALVES, b=EULER)
        shop.wish(("converges", "b"))
        shop.wish(("safe", "a"))
        self.check_refused(console, shop, Broken, 1, "put a: -1/1 1/1; 1/1 0/1")
        self.check_refused(console, shop, Broken, 0, "put b: 1/1 1/1; 1/1 0/1")
        self.check_refused(console, shop, InUse, 1, "drop a")
        self.check_refused(console, shop, InUse, 0, "drop b")
        for _ in range(4):
            console.say("undo")
        self.check_refused(console, shop, NothingToUndo, None, "undo")

    def test_what_is_no_workshop(self):
        class Other:
            """Has what a workshop has."""

            names = wishes = ()

        for odd in ODD_VALUES + ODD_PAIRS + (Workshop, Other(), Other, Console(Workshop()), Workshop().trial(), EULER, "shop"):
            self.check_raises(NotAWorkshop, odd, Console, odd)
            self.check_raises(NotAWorkshop, odd, Console, shop=odd)


class Objects(ConsoleCase):

    def test_two_consoles_on_one_workshop(self):
        shop = Workshop()
        one, other = Console(shop), Console(shop=shop)
        one.say("put a: -1/1 1/1; 1/1 0/1")
        self.assertEqual(other.say("names"), "a")
        other.say("undo")
        self.assertEqual(one.say("names"), "none")
        self.assertIs(one == one, True)
        self.assertIs(one == other, False)
        self.assertIs(one != other, True)
        self.assertIs(bool(one), True)

    def test_consoles_on_two_workshops(self):
        one, _ = self.made(a=EULER)
        other, _ = self.made()
        self.assertEqual([one.say("names"), other.say("names")], ["a", "none"])

    def test_an_empty_workshop_is_taken(self):
        self.assertEqual(Console(Workshop()).say("names"), "none")

    def test_within_a_trial(self):
        console, shop = self.made(a=HALVES)
        with self.assertRaises(InvalidPhrase):
            with shop.trial():
                console.say("drop a")
                console.say("put b: -1/1 1/1; 1/1 0/1")
                console.say("put b")
        self.assertEqual(console.say("names"), "a")
        self.assertEqual(shop.tried(lambda given: Console(given).say("order a")), "2")

    def test_drawn_lines(self):
        random = Random(131)
        console, shop = self.made()
        twin = Workshop()
        for _ in range(400):
            name, rule = random.choice(("a", "b", "c")), random.choice(RULES)
            kind = random.choice(("put", "drop", "undo"))
            line, call = {
                "put": (f"put {name}: {rule_text(rule)}", lambda: twin.put(name, rule)), "drop": (f"drop {name}", lambda: twin.drop(name)),
                "undo": ("undo", twin.undo),
            }[kind]
            told = []
            for each in (lambda: console.say(line), call):
                try:
                    each()
                    told.append(None)
                except (UnknownName, NothingToUndo) as error:
                    told.append((error.__class__, vars(error)))
            self.assertEqual(told[0], told[1])
            self.assertEqual(self.state(shop), self.state(twin))


class Interface(unittest.TestCase):

    def test_the_class(self):
        self.assertEqual(list(inspect.signature(Console).parameters), ["shop"])
        self.assertEqual(list(inspect.signature(vars(Console)["say"]).parameters), ["self", "line"])
        self.assertEqual((Console.__module__, consoles.Console), ("legsteps.consoles", Console))

    def test_the_examples_of_the_document(self):
        shop = Workshop()
        console = Console(shop)
        self.assertEqual(
            [console.say("put tp: -1/1 1/1; 1/2 1/2"), shop.named("tp") == HALVES, console.say("rule tp"), console.say("order tp"),
             console.say("why tp"), console.say("word tp: -2/1 0/1"), console.say("word tp: 0/1 1/1")],
            ["done", True, "-1/1 1/1; 1/2 1/2", "2", "converges", "damped", "kept"],
        )
        shop.wish(("safe", "tp"))
        with self.assertRaises(Broken) as caught:
            console.say("put tp: -1/1 1/1; 1/1 0/1")
        self.assertEqual(caught.exception.index, 0)
        self.assertEqual(
            [len(shop), console.say("undo"), shop.wishes, console.say("drop tp"), console.say("names")], [2, "done", (), "done", "none"],
        )


if __name__ == "__main__":
    unittest.main()
