"""Checks of what is passed, for all modules: each raises the error that is due."""

from rulesquares.errors import InvalidCell, InvalidNumber, InvalidSize


def check_size(n):
    """Raise InvalidSize(n) if no square has the size."""
    if n < 1:
        raise InvalidSize(n)


def check_cell(n, row, column):
    """Raise InvalidCell((row, column)) if the cell is not in the square of size n."""
    if row < 0 or row >= n or column < 0 or column >= n:
        raise InvalidCell((row, column))


def check_number(n, number):
    """Raise InvalidNumber(number) if the square of size n has no such row, column or sign."""
    if number < 0 or number >= n:
        raise InvalidNumber(number)


def check_seen(n, row, column, sign):
    """Raise the error that is due for a seen cell in the square of size n."""
    check_cell(n, row, column)
    check_number(n, sign)
