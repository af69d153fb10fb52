"""Where signs, numbers and pairs of signs stand, also in great squares."""

from rulesquares.checks import check_number, check_size
from rulesquares.remainders import shared_columns, shared_rows, solved


def columns_of(rule, n, row, sign):
    """Return (first, apart, many): the columns of a row in which a sign stands, None if it does not."""
    check_size(n)
    check_number(n, row)
    return _places(rule.b, n, sign, sign - rule.d - rule.a * row)


def rows_of(rule, n, column, sign):
    """Return (first, apart, many): the rows of a column in which a sign stands, None if it does not."""
    check_size(n)
    check_number(n, column)
    return _places(rule.a, n, sign, sign - rule.d - rule.b * column)


def cells_of(square, n, number):
    """Return in how many cells a number stands, and the first of them, None if there is none."""
    check_size(n)
    sign, low_sign = divmod(number - 1, n)
    return overlap(square.high, square.low, n, sign, low_sign)


def overlap(one, other, n, sign, other_sign):
    """Return in how many cells two rules have two signs, and the first of them, None if there is none."""
    check_size(n)
    asked = (one.a, one.b, sign - one.d)
    other_asked = (other.a, other.b, other_sign - other.d)
    rows = shared_rows(asked, other_asked, n)
    if rows is None or not _is_sign(n, sign) or not _is_sign(n, other_sign):
        return 0, None
    row, rows_apart = rows
    column, columns_apart = shared_columns(asked, other_asked, n, row)
    many = (n // rows_apart) * (n // columns_apart)
    return many, (row, column)


def _is_sign(n, sign):
    """Return whether a square of size n may have a sign."""
    return 0 <= sign < n


def _places(factor, n, sign, wanted):
    """Return (first, apart, many) for the multipliers that lead to a sign, None if there are none."""
    places = solved(factor, wanted, n)
    if places is None or not _is_sign(n, sign):
        return None
    first, apart = places
    return first, apart, n // apart
