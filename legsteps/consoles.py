"""Consoles: workshops led by lines of text."""

from legsteps.convergence import why_not
from legsteps.errors import InvalidPhrase, NotAWorkshop
from legsteps.phrases import phrase_in, rule_text
from legsteps.rules import order_of
from legsteps.spots import point_word
from legsteps.workshops import Workshop


def change(shop, word, name, value):
    """Make the change that the line tells, and answer."""
    if word == "put":
        shop.put(name, value)
    elif word == "drop":
        shop.drop(name)
    else:
        shop.undo()
    return "done"


def told_of(rule, word, value):
    """The answer to a question about a rule."""
    if word == "rule":
        return rule_text(rule)
    if word == "order":
        return str(order_of(rule))
    if word == "why":
        why = why_not(rule)
        return "converges" if why is None else why
    return point_word(rule, value)


class Console:
    """A workshop that is led by lines."""

    def __init__(self, shop):
        if not isinstance(shop, Workshop):
            raise NotAWorkshop(shop)
        self._shop = shop

    def say(self, line):
        """The answer to the line."""
        phrase = phrase_in(line)
        if phrase is None:
            raise InvalidPhrase(line)
        word, name, value = phrase
        if word in ("put", "drop", "undo"):
            return change(self._shop, word, name, value)
        if word == "names":
            return " ".join(self._shop.names) or "none"
        return told_of(self._shop.named(name), word, value)
