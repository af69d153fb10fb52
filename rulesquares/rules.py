"""Rules that give each cell of a square of any size a sign."""

from rulesquares.checks import check_cell, check_size
from rulesquares.errors import InvalidTurn

# For each way, how the cell whose sign is taken depends on the cell (r, c) that gets it:
# its row is the first number times r plus the second one times c, its column likewise with
# the third and the fourth one; where a number is -1, the size minus 1 is added.
WAYS = {
    "same": (1, 0, 0, 1),
    "quarter": (0, -1, 1, 0),
    "half": (-1, 0, 0, -1),
    "back": (0, 1, -1, 0),
    "flip": (-1, 0, 0, 1),
    "mirror": (1, 0, 0, -1),
    "cross": (0, 1, 1, 0),
    "anti": (0, -1, -1, 0),
}


class Rule:
    """The sign in row r and column c is the remainder of a * r + b * c + d by the size."""

    def __init__(self, a, b, d):
        self._a = a
        self._b = b
        self._d = d

    @property
    def a(self):
        """What each row adds."""
        return self._a

    @property
    def b(self):
        """What each column adds."""
        return self._b

    @property
    def d(self):
        """What the cell (0, 0) has."""
        return self._d

    def __add__(self, other):
        return Rule(self._a + other._a, self._b + other._b, self._d + other._d)

    def __sub__(self, other):
        return Rule(self._a - other._a, self._b - other._b, self._d - other._d)

    def __mul__(self, other):
        return Rule(self._a * other, self._b * other, self._d * other)

    def __eq__(self, other):
        return (
            isinstance(other, Rule)
            and self._a == other._a
            and self._b == other._b
            and self._d == other._d
        )

    def sign(self, n, row, column):
        """Return the sign of a cell in the square of size n."""
        check_size(n)
        check_cell(n, row, column)
        return self._value(row, column) % n

    def slope(self, step):
        """Return what the step (down, right) adds."""
        down, right = step
        return self._a * down + self._b * right

    def square(self, n):
        """Return the rows of the square of size n."""
        check_size(n)
        return [[self._value(row, column) % n for column in range(n)] for row in range(n)]

    def shifted(self, rows, columns):
        """Return the rule with the signs so many rows further down and columns further right."""
        return Rule(self._a, self._b, self._value(rows, columns))

    def turned(self, way):
        """Return the rule with the signs of the turned or mirrored squares."""
        if way not in WAYS:
            raise InvalidTurn(way)
        row_by_row, row_by_column, column_by_row, column_by_column = WAYS[way]
        d = self._d
        # What is added to a coordinate that runs back is the size minus 1: as a remainder, -1.
        if -1 in (row_by_row, row_by_column):
            d = d - self._a
        if -1 in (column_by_row, column_by_column):
            d = d - self._b
        return Rule(
            self._a * row_by_row + self._b * column_by_row,
            self._a * row_by_column + self._b * column_by_column,
            d,
        )

    def _value(self, row, column):
        """Return what a cell has before the remainder is taken."""
        return self._a * row + self._b * column + self._d
