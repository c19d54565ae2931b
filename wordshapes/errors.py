"""All errors of the package: each one stands right under one of the three bases.

What an error was made with is its message, as with Python's own errors.
"""


class WrongValue(ValueError):
    """A value was given that is not of the kind that is due."""

    def __init__(self):
        """A base tells nothing more, so it takes nothing."""


class InvalidWord(WrongValue):
    """No word."""

    def __init__(self, given):
        self.given = given


class InvalidLetter(WrongValue):
    """No letter that can stand here."""

    def __init__(self, given):
        self.given = given


class InvalidShape(WrongValue):
    """No shape, or one with too many boxes."""

    def __init__(self, given):
        self.given = given


class InvalidRows(WrongValue):
    """No rows of what is to be made."""

    def __init__(self, given):
        self.given = given


class InvalidRow(WrongValue):
    """No row at which this can be done."""

    def __init__(self, given):
        self.given = given


class InvalidHoles(WrongValue):
    """Holes that do not fit."""

    def __init__(self, given):
        self.given = given


class InvalidPair(WrongValue):
    """No square of a word."""

    def __init__(self, given):
        self.given = given


class InvalidArray(WrongValue):
    """No array."""

    def __init__(self, given):
        self.given = given


class InvalidPlace(WrongValue):
    """No such place."""

    def __init__(self, given):
        self.given = given


class InvalidNumber(WrongValue):
    """No number that can stand here."""

    def __init__(self, given):
        self.given = given


class InvalidAmounts(WrongValue):
    """No amounts."""

    def __init__(self, given):
        self.given = given


class InvalidGrowth(WrongValue):
    """No growth."""

    def __init__(self, given):
        self.given = given


class InvalidBasis(WrongValue):
    """No name of a basis."""

    def __init__(self, given):
        self.given = given


class InvalidTerms(WrongValue):
    """No terms of a mixture."""

    def __init__(self, given):
        self.given = given


class InvalidHive(WrongValue):
    """No hive."""

    def __init__(self, given):
        self.given = given


class InvalidPattern(WrongValue):
    """No pattern."""

    def __init__(self, given):
        self.given = given


class InvalidHidden(WrongValue):
    """No hidden word."""

    def __init__(self, given):
        self.given = given


class InvalidText(WrongValue):
    """No text of a word."""

    def __init__(self, given):
        self.given = given


class InvalidName(WrongValue):
    """No name."""

    def __init__(self, given):
        self.given = given


class InvalidClaim(WrongValue):
    """No claim."""

    def __init__(self, given):
        self.given = given


class InvalidIndex(WrongValue):
    """No index of what is told."""

    def __init__(self, given):
        self.given = given


class InvalidLine(WrongValue):
    """No line."""

    def __init__(self, given):
        self.given = given


class NotATable(WrongValue):
    """No Table."""

    def __init__(self, given):
        self.given = given


class NotASkew(WrongValue):
    """No Skew."""

    def __init__(self, given):
        self.given = given


class NotAMixture(WrongValue):
    """No Mixture."""

    def __init__(self, given):
        self.given = given


class InvalidDeeds(WrongValue):
    """The deed with this index has none of the forms of deeds."""

    def __init__(self, index):
        self.index = index


class InvalidLog(WrongValue):
    """The line with this index is none, or cannot be done."""

    def __init__(self, index):
        self.index = index


class WrongName(LookupError):
    """A name was given that cannot be taken here."""

    def __init__(self):
        """A base tells nothing more, so it takes nothing."""


class UnknownName(WrongName):
    """The book does not have this name."""

    def __init__(self, given):
        self.given = given


class InUse(WrongName):
    """The claim with this index speaks of the name."""

    def __init__(self, index):
        self.index = index


class NoAnswer(ArithmeticError):
    """What was given is of the right kind, but nothing comes of it."""

    def __init__(self):
        """A base tells nothing more, so it takes nothing."""


class NotStandard(NoAnswer):
    """A table or a word does not have each of 1 to n once."""


class NotInside(NoAnswer):
    """A shape does not hold the other one."""


class UnlikeSizes(NoAnswer):
    """Two sizes differ that should be alike."""


class UnlikeShapes(NoAnswer):
    """Two shapes differ that should be alike."""


class NoMove(NoAnswer):
    """Nothing can be moved there."""


class NotReduced(NoAnswer):
    """No reduced row."""


class TooMany(NoAnswer):
    """There are, or there would be, more than this limit."""

    def __init__(self, limit):
        self.limit = limit


class NothingToUndo(NoAnswer):
    """No change is left that could be taken back."""


class Broken(NoAnswer):
    """The claim with this index would not hold."""

    def __init__(self, index):
        self.index = index
