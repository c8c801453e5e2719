"""The refusals of the package, each a class of its own.

No message shows what was handed in: a number may have more figures than
Python will write.
"""


class WhereError(ValueError):
    """What was handed in is not what it should be."""


class NoFraction(WhereError):
    """No fraction."""


class NoSpell(WhereError):
    """No spell."""


class NoSteps(WhereError):
    """No steps."""


class NoRing(WhereError):
    """No ring."""


class NoPlace(WhereError):
    """No place."""


class NoDirection(WhereError):
    """No direction."""


class NoLine(WhereError):
    """No line, or no condition."""


class NoRow(WhereError):
    """No row, or one without ring where its ring is asked for."""


class NoName(WhereError):
    """No name."""


class NoQuestion(WhereError):
    """No question."""


class NoShares(WhereError):
    """No shares."""


class NoCuts(WhereError):
    """No cuts."""


class NoCut(WhereError):
    """A cut that can't be made, or unmade."""


class NoRegion(WhereError):
    """No region."""


class NoTile(WhereError):
    """No tile."""


class NoBlock(WhereError):
    """No block."""


class NoDeed(WhereError):
    """No deed."""


class NoText(WhereError):
    """No text that can be read."""


class TooMany(WhereError):
    """More than there may be."""


class NoTelling(WhereError):
    """No telling, by the number that it has or would have."""

    def __init__(self, number):
        WhereError.__init__(self, "no telling")
        self.number = number


class LackError(LookupError):
    """What was asked for is not there."""


class NoMoment(LackError):
    """No moment, or none that is in what was asked."""

    def __init__(self, moment):
        LackError.__init__(self, "no such moment")
        self.moment = moment


class NoNumber(LackError):
    """No number that fits."""

    def __init__(self, number):
        LackError.__init__(self, "no such number")
        self.number = number


class NoHouse(LackError):
    """No house of these."""

    def __init__(self, house):
        LackError.__init__(self, "no such house")
        self.house = house


class NoKept(LackError):
    """No question that is kept."""

    def __init__(self, number):
        LackError.__init__(self, "no such kept question")
        self.number = number
