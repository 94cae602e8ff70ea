"""The errors of the package.

Each class stores what it is made with under the name that the document tells;
no class stands between it and its base class, because callers catch by these.
"""


class WrongValue(ValueError):
    """A value is not of the kind or form that is asked for."""


class InvalidText(WrongValue):
    """The text is not that of a row."""

    def __init__(self, given):
        self.given = given


class InvalidName(WrongValue):
    """The value is no name."""

    def __init__(self, given):
        self.given = given


class InvalidDegree(WrongValue):
    """The value is no degree of a place, or of another place, of the row."""

    def __init__(self, given):
        self.given = given


class InvalidNumber(WrongValue):
    """The number is none of those that are asked for."""

    def __init__(self, given):
        self.given = given


class InvalidPiece(WrongValue):
    """The value is no piece."""

    def __init__(self, given):
        self.given = given


class InvalidWeb(WrongValue):
    """The value is no small web."""

    def __init__(self, given):
        self.given = given


class InvalidWish(WrongValue):
    """The value is no wish."""

    def __init__(self, given):
        self.given = given


class InvalidIndex(WrongValue):
    """The value is no index."""

    def __init__(self, given):
        self.given = given


class NotRow(WrongValue):
    """The value is no row."""

    def __init__(self, given):
        self.given = given


class NotSides(WrongValue):
    """The value is no sides."""

    def __init__(self, given):
        self.given = given


class InvalidKinds(WrongValue):
    """The value is no kinds."""

    def __init__(self, index):
        self.index = index


class InvalidDegrees(WrongValue):
    """The value is no degrees that can be listed."""

    def __init__(self, index):
        self.index = index


class InvalidInner(WrongValue):
    """The value is no kinds of an inner side."""

    def __init__(self, index):
        self.index = index


class InvalidOuter(WrongValue):
    """The value is no kinds of an outer side."""

    def __init__(self, index):
        self.index = index


class InvalidChanges(WrongValue):
    """The value is no changes of the row."""

    def __init__(self, index):
        self.index = index


class InvalidWishes(WrongValue):
    """The value is no wishes."""

    def __init__(self, index):
        self.index = index


class WrongName(LookupError):
    """A name is not there, or cannot be taken away."""


class UnknownName(WrongName):
    """The library has no such name."""

    def __init__(self, given):
        self.given = given


class InUse(WrongName):
    """A wish is for this name."""

    def __init__(self, index):
        self.index = index


class NotPossible(ArithmeticError):
    """The values are right, but what is asked for does not exist."""


class Cannot(NotPossible):
    """The row, or the sides, cannot be."""

    def __init__(self, given):
        self.given = given


class TooMany(NotPossible):
    """There are more than the limit lets."""

    def __init__(self, given):
        self.given = given


class TooGreat(NotPossible):
    """A degree is beyond the limits."""

    def __init__(self, given):
        self.given = given


class NothingToUndo(NotPossible):
    """Nothing can be taken back."""


class Broken(NotPossible):
    """A wish does not hold."""

    def __init__(self, index):
        self.index = index
