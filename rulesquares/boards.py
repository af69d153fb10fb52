"""Live squares that are filled cell by cell, as long as some rule fits."""

from rulesquares.checks import check_seen, check_size
from rulesquares.errors import NoRule, NothingToUndo, Taken
from rulesquares.fits import fitting, forced
from rulesquares.remainders import met, solved


class Board:
    """A square of size n with the cells that were seen."""

    def __init__(self, n):
        check_size(n)
        self._size = n
        self._cells = []

    @property
    def size(self):
        """How many rows, and how many columns, there are."""
        return self._size

    @property
    def cells(self):
        """The list of the seen cells (row, column, sign), in the order in which they were added."""
        return list(self._cells)

    @property
    def fits(self):
        """How many tuples (a, b, d) fit to the seen cells, and the first of them."""
        return fitting(self._size, self._cells)

    def __call__(self, row, column, sign):
        return self._fill([(row, column, sign)], [])

    def __len__(self):
        return len(self._cells)

    def __eq__(self, other):
        return (
            isinstance(other, Board)
            and not isinstance(other, ClearBoard)
            and self._size == other._size
            and self._cells == other._cells
        )

    def signs_at(self, row, column):
        """Return (least, apart): the signs that fitting rules have in a cell."""
        return forced(self._size, self._cells, row, column)

    def add_all(self, cells):
        """Add all cells of a list, or none of them; return how many tuples fit."""
        return self._fill(cells, [])

    def undo(self):
        """Take back the last cell."""
        if not self._cells:
            raise NothingToUndo(0)
        self._cells.pop()

    def _fill(self, added, steps):
        """Add cells, if lines with some steps have no sign twice; return how many tuples fit."""
        cells = self._cells
        for row, column, sign in added:
            check_seen(self._size, row, column, sign)
            _check_free(self._size, cells, (row, column, sign), steps)
            cells = cells + [(row, column, sign)]
            if fitting(self._size, cells)[0] == 0:
                raise NoRule(sign)
        self._cells = cells
        return self.fits[0]


class ClearBoard(Board):
    """A board on which no line with one of some steps may have a sign in two unlike seen cells."""

    def __init__(self, n, steps):
        Board.__init__(self, n)
        self._steps = list(steps)

    @property
    def steps(self):
        """The list of the steps."""
        return list(self._steps)

    def __call__(self, row, column, sign):
        return self._fill([(row, column, sign)], self._steps)

    def __eq__(self, other):
        return (
            isinstance(other, ClearBoard)
            and self._size == other._size
            and self._cells == other._cells
            and self._steps == other._steps
        )

    def add_all(self, cells):
        """Add all cells of a list, or none of them; return how many tuples fit."""
        return self._fill(cells, self._steps)


def _check_free(n, cells, added, steps):
    """Raise Taken with the first seen cell that is the added one, else with the first that bars its sign."""
    row, column, sign = added
    for seen_row, seen_column, _ in cells:
        if seen_row == row and seen_column == column:
            raise Taken((row, column))
    for seen_row, seen_column, seen_sign in cells:
        if seen_sign == sign and _is_on_line(n, row - seen_row, column - seen_column, steps):
            raise Taken((seen_row, seen_column))


def _is_on_line(n, rows, columns, steps):
    """Return whether a line with one of some steps leads so many rows down and columns to the right."""
    return any([met(solved(down, rows, n), solved(right, columns, n)) is not None for down, right in steps])
