"""Names of rules, and wishes: what is one, and whether it holds for a rule."""

from legsteps.convergence import converges
from legsteps.lefts import is_safe, is_safe_in
from legsteps.numbers import is_above_0, is_point, is_whole
from legsteps.plains import keeps
from legsteps.reals import damps_all
from legsteps.rules import order_of
from legsteps.spots import point_word

LETTERS = "abcdefghijklmnopqrstuvwxyz"


def is_name(value):
    """Whether the value is a text of 1 to 12 letters."""
    if not isinstance(value, str) or len(value) < 1 or len(value) > 12:
        return False
    return all([sign in LETTERS for sign in value])


def is_wish(value):
    """Whether the value is a wish, whether or not a rule stands under its name."""
    if not isinstance(value, tuple) or len(value) < 2:
        return False
    word, name = value[0], value[1]
    return isinstance(word, str) and is_name(name) and has_right_parts(word, value[2:])


def has_right_parts(word, parts):
    """Whether these are the parts that a wish of this word has behind its name."""
    if word in ("converges", "damps all", "safe"):
        return len(parts) == 0
    if len(parts) != 1:
        return False
    part = parts[0]
    if word == "order":
        return is_whole(part) and 0 <= part <= 16
    if word == "damps":
        return is_point(part)
    return word in ("safe in", "keeps") and is_above_0(part)


def holds(wish, rule):
    """Whether the wish holds if this rule stands under its name."""
    word = wish[0]
    if word == "converges":
        return converges(rule)
    if word == "order":
        return order_of(rule) >= wish[2]
    if word == "damps":
        return point_word(rule, wish[2]) == "damped"
    if word == "damps all":
        return damps_all(rule)
    if word == "safe":
        return is_safe(rule)
    if word == "safe in":
        return is_safe_in(rule, wish[2])
    return keeps(rule, wish[2])
