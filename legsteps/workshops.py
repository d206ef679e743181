"""Workshops: rules under names, and wishes that always hold."""

from legsteps.errors import (
    Broken, InUse, InvalidIndex, InvalidName, InvalidWish, NothingToUndo, UnknownName,
)
from legsteps.numbers import is_whole
from legsteps.rules import check_rule
from legsteps.wishes import holds, is_name, is_wish


class Mark:
    """What a workshop was when a block began, and the mark of the block around it that the same trial serves."""

    def __init__(self, rules, kept, past, outer):
        self.rules = rules
        self.kept = kept
        self.past = past
        self.outer = outer


class Trial:
    """For a `with` statement: if its block ends with an exception, the workshop is what it was when the block began."""

    def __init__(self, shop):
        self._shop = shop
        self._mark = None

    def __enter__(self):
        shop = self._shop
        self._mark = Mark(shop._rules, shop._wishes, list(shop._past), self._mark)
        return shop

    def __exit__(self, kind, value, trace):
        shop = self._shop
        if kind is not None:
            shop._rules = self._mark.rules
            shop._wishes = self._mark.kept
            shop._past = self._mark.past
        self._mark = self._mark.outer


class Workshop:
    """Rules under names, and wishes on them that hold after each change."""

    def __init__(self):
        # The dict and the tuple are never modified: a change puts others in their place, and keeps them in the past.
        self._rules = {}
        self._wishes = ()
        self._past = []

    def _change(self, rules, wishes):
        """Put these in the place of the rules and wishes, so that it can be taken back."""
        self._past.append((self._rules, self._wishes))
        self._rules = rules
        self._wishes = wishes

    def put(self, name, rule):
        """Put the rule under the name, or in the place of the one there."""
        if not is_name(name):
            raise InvalidName(name)
        check_rule(rule)
        for index, wish in enumerate(self._wishes):
            if wish[1] == name and not holds(wish, rule):
                raise Broken(index)
        self._change({**self._rules, name: rule}, self._wishes)

    def drop(self, name):
        """Take the rule of this name away."""
        if name not in self:
            raise UnknownName(name)
        for index, wish in enumerate(self._wishes):
            if wish[1] == name:
                raise InUse(index)
        self._change({each: rule for each, rule in self._rules.items() if each != name}, self._wishes)

    def wish(self, wish):
        """Add the wish behind the others."""
        if not is_wish(wish):
            raise InvalidWish(wish)
        if not holds(wish, self.named(wish[1])):
            raise Broken(len(self._wishes))
        self._change(self._rules, self._wishes + (wish,))

    def lift(self, index):
        """Take the wish with this index away."""
        if not is_whole(index) or index < 0 or index >= len(self._wishes):
            raise InvalidIndex(index)
        self._change(self._rules, self._wishes[:index] + self._wishes[index + 1:])

    def named(self, name):
        """The rule of this name."""
        if name not in self:
            raise UnknownName(name)
        return self._rules[name]

    def undo(self):
        """Take back the last change that is not taken back yet."""
        if not self._past:
            raise NothingToUndo()
        self._rules, self._wishes = self._past.pop()

    def trial(self):
        """A value for `with` statements whose changes do not stay if they end with an exception."""
        return Trial(self)

    def tried(self, action):
        """What the action returns for the workshop, as a trial."""
        with self.trial() as shop:
            return action(shop)

    def __len__(self):
        return len(self._past)

    def __bool__(self):
        return True

    def __contains__(self, x):
        return is_name(x) and x in self._rules

    @property
    def names(self):
        """The names, ascending."""
        return tuple(sorted(self._rules))

    @property
    def wishes(self):
        """The wishes, in the order in which they were made."""
        return self._wishes
