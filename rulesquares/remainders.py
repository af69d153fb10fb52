"""Where multiples, and sums of multiples, have given remainders by a size.

Integers that return in equal distances are told by a tuple (first, apart): first, first + apart,
first + 2 * apart and so on, where first is from 0 to apart - 1. None tells that there are none.
What a rule is asked for is told by a tuple (a, b, wanted): the cells for which a times the row
plus b times the column has the same remainder by the size as wanted.
"""

from math import gcd, lcm


def solved(factor, wanted, n):
    """Return which multipliers give the factor the remainder of wanted by n."""
    common, times = _common_divisor(factor, n)
    if wanted % common != 0:
        return None
    apart = n // common
    return wanted // common * times % apart, apart


def met(one, other):
    """Return which integers are told by both of two tuples (first, apart)."""
    if one is None or other is None:
        return None
    first, apart = one
    other_first, other_apart = other
    multipliers = solved(apart, other_first - first, other_apart)
    if multipliers is None:
        return None
    return first + apart * multipliers[0], lcm(apart, other_apart)


def shared_rows(one, other, n):
    """Return which rows have a cell that does what both of two rules are asked for."""
    upper = [entry % n for entry in one]
    lower = [entry % n for entry in other]
    # The cells stay the same if a multiple of the one is taken from the other, as the steps
    # can be taken back: so Euclid's algorithm frees the lower one from the column.
    while lower[1] != 0:
        whole = upper[1] // lower[1]
        rest = [(high - whole * low) % n for high, low in zip(upper, lower)]
        upper = lower
        lower = rest
    # Some column will do for the upper one if what the row leaves to it is a multiple of
    # what columns can add.
    return met(solved(lower[0], lower[2], n), solved(upper[0], upper[2], gcd(upper[1], n)))


def shared_columns(one, other, n, row):
    """Return which columns of a row do what both of two rules are asked for."""
    return met(_columns(one, n, row), _columns(other, n, row))


def _columns(asked, n, row):
    """Return which columns of a row do what one rule is asked for."""
    a, b, wanted = asked
    return solved(b, wanted - a * row, n)


def _common_divisor(factor, n):
    """Return the greatest common divisor with n, and a multiplier that gives the factor its remainder."""
    common = n
    rest = factor % n
    times = 0
    rest_times = 1
    while rest != 0:
        whole = common // rest
        common, rest = rest, common - whole * rest
        times, rest_times = rest_times, times - whole * rest_times
    return common, times
