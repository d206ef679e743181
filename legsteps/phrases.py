"""Texts of numbers, points and rules, and the lines that a console understands."""

from legsteps.numbers import is_fraction
from legsteps.rules import is_rule
from legsteps.wishes import is_name

DIGITS = "0123456789"


def text_of(fractions):
    """The fractions with blanks between."""
    return " ".join([f"{number}/{parts}" for number, parts in fractions])


def rule_text(rule):
    """The text of a rule."""
    return f"{text_of(rule[0])}; {text_of(rule[1])}"


def whole_in(text):
    """The whole number that is written just so, None if the text is none."""
    digits = text.removeprefix("-")
    if not digits or not all([sign in DIGITS for sign in digits]):
        return None
    number = int(text)
    return number if str(number) == text else None


def fraction_in(text):
    """The fraction that is written just so, None if the text is none."""
    number, _, parts = text.partition("/")
    found = (whole_in(number), whole_in(parts))
    return found if is_fraction(found) else None


def fractions_in(text):
    """The tuple of the fractions with one blank between each two, None if the text is none."""
    found = tuple([fraction_in(each) for each in text.split(" ")])
    return None if None in found else found


def rule_in(text):
    """The rule with this text, None if there is none."""
    first, _, second = text.partition("; ")
    found = (fractions_in(first), fractions_in(second))
    return found if is_rule(found) else None


def point_in(text):
    """The point with this text, None if there is none."""
    found = fractions_in(text)
    return found if found is not None and len(found) == 2 else None


def phrase_in(line):
    """The word of a line, its name and its value, each None if there is none; None for what is no such line."""
    if not isinstance(line, str):
        return None
    if line in ("undo", "names"):
        return (line, None, None)
    head, colon, tail = line.partition(": ")
    word, _, name = head.partition(" ")
    if not is_name(name):
        return None
    if not colon:
        return (word, name, None) if word in ("drop", "rule", "order", "why") else None
    value = None
    if word == "put":
        value = rule_in(tail)
    elif word == "word":
        value = point_in(tail)
    return None if value is None else (word, name, value)
