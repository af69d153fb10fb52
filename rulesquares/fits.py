"""Which rules have the signs of cells that were seen, and what they have in other cells."""

from math import gcd

from rulesquares.checks import check_cell, check_seen, check_size
from rulesquares.systems import fitting_rules


def fitting(n, cells):
    """Return how many tuples (a, b, d) fit to the seen cells, and the first one, None if none does."""
    _check(n, cells)
    found = fitting_rules(n, cells)
    if found is None:
        return 0, None
    first, moves = found
    many = 1
    for at, move in enumerate(moves):
        many = many * (n // move[at])
    return many, first


def forced(n, cells, row, column):
    """Return (least, apart): the signs that fitting rules have in a cell, None if no rule fits."""
    _check(n, cells)
    check_cell(n, row, column)
    found = fitting_rules(n, cells)
    if found is None:
        return None
    first, moves = found
    apart = _common_divisor(n, [_value(move, row, column) for move in moves])
    return _value(first, row, column) % apart, apart


def asked(n, cells):
    """Return the first cell in which fitting rules have the most signs, None if they have one everywhere."""
    _check(n, cells)
    found = fitting_rules(n, cells)
    if found is None:
        return None
    _, moves = found
    # The signs of any cell are apart by a multiple of what divides all entries. For each prime that
    # could make them further apart, some cell avoids it, so some cell avoids all such primes.
    common = _common_divisor(n, [entry for move in moves for entry in move])
    if common == n:
        return None
    return _first_coprime(n // common, [[entry // common for entry in move] for move in moves])


def everywhere(seen, most):
    """Return all tuples (a, b, d) of integers from -most to most that have the cells seen in several sizes."""
    for n, row, column, sign in seen:
        check_size(n)
        check_seen(n, row, column, sign)
    entries = range(-most, most + 1)
    return [(a, b, d) for a in entries for b in entries for d in entries if _has_all((a, b, d), seen)]


def _check(n, cells):
    """Raise the error that is due for a size and a list of seen cells."""
    check_size(n)
    for row, column, sign in cells:
        check_seen(n, row, column, sign)


def _value(told, row, column):
    """Return what a tuple (a, b, d) gives a cell before the remainder is taken."""
    a, b, d = told
    return a * row + b * column + d


def _has_all(told, seen):
    """Return whether a tuple (a, b, d) has all cells that were seen in several sizes."""
    return all([_value(told, row, column) % n == sign for n, row, column, sign in seen])


def _common_divisor(n, numbers):
    """Return the greatest common divisor of n and some numbers."""
    common = n
    for number in numbers:
        common = gcd(common, number)
    return common


def _first_coprime(n, moves):
    """Return the first cell in which n and the values of the moves have no common divisor but 1."""
    # Each prime that divides n bars a row, or a column of the row that is found, by one remainder at
    # most. Sizes of 30 digits have so few primes that about 200 rows or columns are the most in a run.
    row = 0
    while _common_divisor(n, [entry for a, b, d in moves for entry in (b, a * row + d)]) != 1:
        row += 1
    column = 0
    while _common_divisor(n, [_value(move, row, column) for move in moves]) != 1:
        column += 1
    return row, column
