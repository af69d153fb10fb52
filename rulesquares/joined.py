"""Squares that are put together from the squares of two rules."""

from rulesquares.checks import check_cell, check_number, check_size
from rulesquares.errors import InvalidSize
from rulesquares.lines import COLUMNS, ROWS, is_clear, is_paired
from rulesquares.places import columns_of

# How many columns `place` tells.
MOST = 40


class Joined:
    """A square of an outer rule, of size m, in which each cell is a square of an inner rule, of size k."""

    def __init__(self, outer, m, inner, k):
        check_size(m)
        check_size(k)
        self._outer = outer
        self._m = m
        self._inner = inner
        self._k = k

    @property
    def size(self):
        """How many rows, and how many columns, there are."""
        return self._m * self._k

    def __eq__(self, other):
        return (
            isinstance(other, Joined)
            and self._outer == other._outer
            and self._m == other._m
            and self._inner == other._inner
            and self._k == other._k
        )

    def sign(self, row, column):
        """Return the sign of a cell."""
        check_cell(self.size, row, column)
        outer_sign = self._outer.sign(self._m, row // self._k, column // self._k)
        return self._k * outer_sign + self._inner.sign(self._k, row % self._k, column % self._k)

    def rows_clear(self):
        """Return whether each row has each sign exactly once."""
        return self._is_clear(ROWS)

    def columns_clear(self):
        """Return whether each column has each sign exactly once."""
        return self._is_clear(COLUMNS)

    def paired(self, other):
        """Return whether each pair of signs of two such squares stands in exactly one cell."""
        if self._m != other._m or self._k != other._k:
            raise InvalidSize(other.size)
        return is_paired(self._outer, other._outer, self._m) and is_paired(self._inner, other._inner, self._k)

    def place(self, row, sign):
        """Return the ascending list of the first 40 columns of a row in which a sign stands."""
        check_number(self.size, row)
        # A sign that the square does not have leads to an outer sign that the outer square does not have.
        outer_sign, inner_sign = divmod(sign, self._k)
        outer_columns = _first_columns(self._outer, self._m, row // self._k, outer_sign)
        inner_columns = _first_columns(self._inner, self._k, row % self._k, inner_sign)
        columns = [self._k * outer_column + column for outer_column in outer_columns for column in inner_columns]
        return columns[:MOST]

    def _is_clear(self, step):
        """Return whether both rules are clear on a step: then they have each pair of their signs once."""
        return is_clear(self._outer, self._m, step) and is_clear(self._inner, self._k, step)


def _first_columns(rule, n, row, sign):
    """Return the ascending list of the first 40 columns of a row in which a rule has a sign."""
    columns = columns_of(rule, n, row, sign)
    if columns is None:
        return []
    first, apart, many = columns
    return [first + apart * at for at in range(min(many, MOST))]
