"""The errors of the package."""


class SquareError(ValueError):
    """Any error of the package; it keeps the value that was wrong."""

    def __init__(self, value):
        self.value = value


class InvalidSize(SquareError):
    """A size that no square has."""


class InvalidCell(SquareError):
    """A cell that is not in the square."""


class InvalidNumber(SquareError):
    """A number that is out of its bounds."""


class InvalidTurn(SquareError):
    """A text that names no way to turn or mirror a square."""


class Taken(SquareError):
    """A cell that is taken, or that bars a sign."""


class NoRule(SquareError):
    """A sign with which no rule would fit."""


class NothingToUndo(SquareError):
    """There is no cell to take back."""


class Unreadable(SquareError):
    """A text that nothing has."""
