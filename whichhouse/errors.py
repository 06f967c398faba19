"""The errors: three base classes, and below each the classes that are raised."""


class WrongValue(ValueError):
    """A value that is not as described."""

    def __init__(self):
        pass


class InvalidText(WrongValue):
    """What is no text of a web, or no torn text."""

    def __init__(self, given):
        self.given = given


class InvalidHouse(WrongValue):
    """What is no house of the web."""

    def __init__(self, given):
        self.given = given


class InvalidMark(WrongValue):
    """What is no mark, or no mark that may stand here."""

    def __init__(self, given):
        self.given = given


class InvalidWord(WrongValue):
    """What is no word."""

    def __init__(self, given):
        self.given = given


class InvalidPair(WrongValue):
    """What is no pair of houses of the web."""

    def __init__(self, given):
        self.given = given


class InvalidWant(WrongValue):
    """What is no word for what a web may be wanted to have."""

    def __init__(self, given):
        self.given = given


class InvalidCount(WrongValue):
    """What is no integer in the limits."""

    def __init__(self, given):
        self.given = given


class InvalidLetters(WrongValue):
    """What is no ascending string of letters."""

    def __init__(self, given):
        self.given = given


class InvalidName(WrongValue):
    """What is no name of a web."""

    def __init__(self, given):
        self.given = given


class InvalidClaim(WrongValue):
    """What is no claim of a book."""

    def __init__(self, given):
        self.given = given


class InvalidIndex(WrongValue):
    """What is no index of a claim."""

    def __init__(self, given):
        self.given = given


class InvalidLine(WrongValue):
    """What is no line of the console."""

    def __init__(self, given):
        self.given = given


class NotAWeb(WrongValue):
    """What is no web."""

    def __init__(self, given):
        self.given = given


class InvalidDeeds(WrongValue):
    """Deeds of which one is none: its index."""

    def __init__(self, index):
        self.index = index


class WrongName(LookupError):
    """A name that cannot be used so."""

    def __init__(self):
        pass


class UnknownName(WrongName):
    """A name that the book does not have."""

    def __init__(self, given):
        self.given = given


class InUse(WrongName):
    """A name that a claim needs: the index of the first such one."""

    def __init__(self, index):
        self.index = index


class NoAnswer(ArithmeticError):
    """A question without an answer, or a change that cannot be made."""

    def __init__(self):
        pass


class NoCode(NoAnswer):
    """There is no code, or no alike ends, or no reading."""


class TooMany(NoAnswer):
    """More than the limit."""

    def __init__(self, limit):
        self.limit = limit


class Nowhere(NoAnswer):
    """No house is possible any more."""


class NothingToUndo(NoAnswer):
    """No change is left that could be taken back."""


class Broken(NoAnswer):
    """A claim that would not hold: its index."""

    def __init__(self, index):
        self.index = index
