"""The errors of the package, each kind under StepError alone."""


class StepError(ValueError):
    """Any error that the package raises by itself."""


class InvalidFraction(StepError):
    """What was given is no fraction."""

    def __init__(self, given):
        self.given = given


class InvalidNumber(StepError):
    """What was given is no whole number within the limits told."""

    def __init__(self, given):
        self.given = given


class InvalidIndex(StepError):
    """What was given is no index of a wish."""

    def __init__(self, given):
        self.given = given


class InvalidPoint(StepError):
    """What was given is no point."""

    def __init__(self, given):
        self.given = given


class InvalidPolynomial(StepError):
    """What was given is no polynomial, or not one that is taken here."""

    def __init__(self, given):
        self.given = given


class InvalidRule(StepError):
    """What was given is no rule."""

    def __init__(self, given):
        self.given = given


class InvalidSlope(StepError):
    """What was given is no fraction above 0."""

    def __init__(self, given):
        self.given = given


class InvalidRatio(StepError):
    """What was given is no fraction above 0."""

    def __init__(self, given):
        self.given = given


class InvalidSize(StepError):
    """What was given is no fraction above 0."""

    def __init__(self, given):
        self.given = given


class InvalidTable(StepError):
    """What was given is no symmetric table that fits the rule."""

    def __init__(self, given):
        self.given = given


class InvalidName(StepError):
    """What was given is no name for a rule."""

    def __init__(self, given):
        self.given = given


class InvalidWish(StepError):
    """What was given is no wish."""

    def __init__(self, given):
        self.given = given


class InvalidPhrase(StepError):
    """What was given is no line that a console understands."""

    def __init__(self, given):
        self.given = given


class UnknownName(StepError):
    """No rule stands under the name that was given."""

    def __init__(self, given):
        self.given = given


class NotAWorkshop(StepError):
    """What was given is no workshop."""

    def __init__(self, given):
        self.given = given


class InvalidStarts(StepError):
    """The start at this index is no fraction; None for what are no starts at all."""

    def __init__(self, index):
        self.index = index


class InUse(StepError):
    """The wish with this index names the rule."""

    def __init__(self, index):
        self.index = index


class Broken(StepError):
    """The wish with this index would not hold."""

    def __init__(self, index):
        self.index = index


class NotLevel(StepError):
    """The polynomial is not 0 at 1."""


class NotExplicit(StepError):
    """The guess of a pair is not explicit."""


class UnlikeSteps(StepError):
    """The two rules have not as many steps."""


class TooManySteps(StepError):
    """There are more steps than are let."""


class LostStep(StepError):
    """The step is lost: the highest number is 0."""


class NothingToUndo(StepError):
    """No change is left that could be taken back."""
