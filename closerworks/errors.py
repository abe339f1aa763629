"""The errors that the package raises, each under one of three base classes."""


class WrongValue(ValueError):
    """A value that was passed is not what it should be."""


class InvalidText(WrongValue):
    """What was passed is no such text."""

    def __init__(self, given):
        self.given = given


class InvalidThings(WrongValue):
    """What was passed are no things."""

    def __init__(self, given):
        self.given = given


class InvalidLot(WrongValue):
    """What was passed is no lot."""

    def __init__(self, given):
        self.given = given


class InvalidRule(WrongValue):
    """What was passed is no rule."""

    def __init__(self, given):
        self.given = given


class InvalidLetters(WrongValue):
    """What was passed are no such letters."""

    def __init__(self, given):
        self.given = given


class InvalidNumber(WrongValue):
    """What was passed is no such number."""

    def __init__(self, given):
        self.given = given


class InvalidName(WrongValue):
    """What was passed is no name."""

    def __init__(self, given):
        self.given = given


class InvalidWish(WrongValue):
    """What was passed is no wish."""

    def __init__(self, given):
        self.given = given


class InvalidCommand(WrongValue):
    """What was passed is no command."""

    def __init__(self, given):
        self.given = given


class NotACloser(WrongValue):
    """What was passed is no closer."""

    def __init__(self, given):
        self.given = given


class NotATable(WrongValue):
    """What was passed is no table."""

    def __init__(self, given):
        self.given = given


class NotARiddle(WrongValue):
    """What was passed is no riddle."""

    def __init__(self, given):
        self.given = given


class InvalidFamily(WrongValue):
    """What was passed is no family."""

    def __init__(self, index):
        self.index = index


class InvalidClosed(WrongValue):
    """What was passed is no family of closed lots."""

    def __init__(self, index):
        self.index = index


class InvalidBook(WrongValue):
    """What was passed is no book."""

    def __init__(self, index):
        self.index = index


class InvalidRows(WrongValue):
    """What was passed is no tuple of rows."""

    def __init__(self, index):
        self.index = index


class InvalidNumbers(WrongValue):
    """What was passed is no tuple of numbers of rows."""

    def __init__(self, index):
        self.index = index


class InvalidSheet(WrongValue):
    """What was passed is no sheet."""

    def __init__(self, index):
        self.index = index


class InvalidSheets(WrongValue):
    """What was passed is no tuple of sheets."""

    def __init__(self, index):
        self.index = index


class InvalidParts(WrongValue):
    """What was passed is no tuple of parts."""

    def __init__(self, index):
        self.index = index


class InvalidLeads(WrongValue):
    """What was passed is no tuple of leads."""

    def __init__(self, index):
        self.index = index


class InvalidBases(WrongValue):
    """What was passed is no family of bases."""

    def __init__(self, index):
        self.index = index


class InvalidWeights(WrongValue):
    """What was passed is no tuple of weights."""

    def __init__(self, index):
        self.index = index


class InvalidAnswers(WrongValue):
    """What was passed is no tuple of answers."""

    def __init__(self, index):
        self.index = index


class InvalidLog(WrongValue):
    """What was passed is no log."""

    def __init__(self, index):
        self.index = index


class WrongName(LookupError):
    """A name that was passed stands for nothing here, or is still needed."""


class UnknownThing(WrongName):
    """What was passed is none of the things."""

    def __init__(self, given):
        self.given = given


class UnknownName(WrongName):
    """What was passed is none of the names."""

    def __init__(self, given):
        self.given = given


class InUse(WrongName):
    """A promise still has the name."""

    def __init__(self, index):
        self.index = index


class NotPossible(ArithmeticError):
    """What was passed is right by itself, but cannot be done."""


class OtherThings(NotPossible):
    """Two closers have not the same things."""

    def __init__(self, given):
        self.given = given


class TooMany(NotPossible):
    """There are more than can be taken."""

    def __init__(self, given):
        self.given = given


class TooFew(NotPossible):
    """There are fewer than are needed."""

    def __init__(self, given):
        self.given = given


class Loses(NotPossible):
    """Parts lose something."""

    def __init__(self, given):
        self.given = given


class Swapped(NotPossible):
    """The closer is not convex."""

    def __init__(self, given):
        self.given = given


class Barred(NotPossible):
    """The closer has no exchange."""

    def __init__(self, given):
        self.given = given


class NoFit(NotPossible):
    """No closer fits the riddle."""


class NothingToUndo(NotPossible):
    """No change is left to be taken back."""


class Broken(NotPossible):
    """A promise would not hold."""

    def __init__(self, index):
        self.index = index
