"""The errors of the program."""


class TickError(ValueError):
    """The base of each error of the program."""


class ParseError(TickError):
    """A text cannot be read; line is the index of its first wrong line."""

    def __init__(self, line):
        TickError.__init__(self, f"line {line} is wrong")
        self.line = line


class DuplicateName(TickError):
    """A name is held already."""


class HasRing(TickError):
    """A table has a ring where it must have none."""


class InvalidArrangement(TickError):
    """An object is no arrangement of a table."""


class InvalidBalls(TickError):
    """An object is no tuple of balls of a tree."""


class InvalidColumns(TickError):
    """An object is no such tuple of columns."""


class InvalidFines(TickError):
    """An object is no fines of a table."""


class InvalidIndex(TickError):
    """An object is no such index."""


class InvalidLine(TickError):
    """An object is no line of the shell."""


class InvalidLines(TickError):
    """An object is no lines of a table."""


class InvalidName(TickError):
    """An object is no name."""


class InvalidNumber(TickError):
    """An object is no price and no fine."""


class InvalidOrder(TickError):
    """An object is no such order of a table."""


class InvalidPrices(TickError):
    """An object is no prices of a table."""


class InvalidSquare(TickError):
    """An object is no square of a table."""


class InvalidTable(TickError):
    """An object is no table."""


class InvalidTree(TickError):
    """An object is no tree."""


class KnownTick(TickError):
    """A tick stands already where one is to be put."""


class NoTrial(TickError):
    """No trial is open."""


class NothingToRedo(TickError):
    """No call can be done again."""


class NothingToUndo(TickError):
    """No call can be taken back."""


class TooDeep(TickError):
    """As many trials as there can be are open."""


class UnknownTable(TickError):
    """No table is held by a name."""


class UnknownTick(TickError):
    """No tick stands where one is to be struck."""
