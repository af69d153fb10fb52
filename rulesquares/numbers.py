"""Squares of numbers that are made from two rules, and the sums of their lines."""

from math import gcd

from rulesquares.calendars import Calendar
from rulesquares.checks import check_size
from rulesquares.factors import divisor_list
from rulesquares.lines import COLUMNS, ROWS, pair_sizes

FALLING = (1, 1)
RISING = (-1, 1)


class Numbers:
    """The number in a cell is n times the sign of one rule, plus the sign of another one, plus 1."""

    def __init__(self, high, low):
        self._high = high
        self._low = low

    @property
    def high(self):
        """The rule whose signs count n times."""
        return self._high

    @property
    def low(self):
        """The rule whose signs count once."""
        return self._low

    def __eq__(self, other):
        return isinstance(other, Numbers) and self._high == other._high and self._low == other._low

    def number_at(self, n, row, column):
        """Return the number in a cell of the square of size n."""
        return n * self._high.sign(n, row, column) + self._low.sign(n, row, column) + 1

    def square(self, n):
        """Return the rows of the square of size n."""
        return [
            [n * high + low + 1 for high, low in zip(high_row, low_row)]
            for high_row, low_row in zip(self._high.square(n), self._low.square(n))
        ]

    def line_sum(self, n, step, row, column):
        """Return the sum of the n numbers on the line with a step from a cell on."""
        high = _sign_sum(self._high, n, step, self._high.sign(n, row, column))
        low = _sign_sum(self._low, n, step, self._low.sign(n, row, column))
        return n * high + low + n

    def main_sums(self, n):
        """Return the sums of the main slants from (0, 0) and from (n - 1, 0)."""
        return self.line_sum(n, FALLING, 0, 0), self.line_sum(n, RISING, n - 1, 0)


def even_sum(n):
    """Return the sum of each line of a magic square of size n."""
    check_size(n)
    return n * (n * n + 1) // 2


def once_sizes(square):
    """Return the calendar of the sizes with each number from 1 to n times n in exactly one cell."""
    return pair_sizes(square.high, square.low)


def alike_sizes(square, step):
    """Return the calendar of the sizes for which all lines with a step have the same sum."""
    high, low = square.high, square.low
    # Two lines have the same sum only if each rule by itself gives them the same sum of signs:
    # the sums of low differ by less than n times n, those of high, n times, by multiples of it.
    return (
        _divided_sizes(high.slope(step), gcd(high.a, high.b))
        & _divided_sizes(low.slope(step), gcd(low.a, low.b))
    )


def unlike_line(square, n, step):
    """Return where the first line with another sum than that from (0, 0) begins, None if there is none."""
    check_size(n)
    high, low = square.high, square.low
    common = gcd(high.slope(step), n)
    low_common = gcd(low.slope(step), n)
    # If neither the next column nor the next row leads to another sum, no cell does.
    for cell in ((0, 1), (1, 0)):
        if high.slope(cell) % common != 0 or low.slope(cell) % low_common != 0:
            return cell
    return None


def even_sizes(square, step):
    """Return the calendar of the sizes for which all lines with a step have the even sum."""
    high, low = square.high, square.low
    # As for like sums, each rule has to do its part by itself. With g for its common divisor, it
    # does so on a line if the first sign is (g - 1) / 2, as a remainder by an odd g: if g divides
    # twice this sign, plus 1. If this is so for (0, 0), and g divides a and b, it is for all cells.
    return (
        _divided_sizes(high.slope(step), gcd(high.a, high.b, 2 * high.d + 1))
        & _divided_sizes(low.slope(step), gcd(low.a, low.b, 2 * low.d + 1))
    )


def main_sizes(square):
    """Return the calendar of the sizes for which both main slants have the even sum."""
    return _main_sign_sizes(square.high) & _main_sign_sizes(square.low)


def magic_sizes(square):
    """Return the calendar of the sizes for which a square of numbers is magic."""
    lines = even_sizes(square, ROWS) & even_sizes(square, COLUMNS) & main_sizes(square)
    return once_sizes(square) & lines


def whole_sizes(square):
    """Return the calendar of the sizes for which a square of numbers is wholly magic."""
    return magic_sizes(square) & even_sizes(square, FALLING) & even_sizes(square, RISING)


def _sign_sum(rule, n, step, first):
    """Return the sum of the n signs on a line with a step that begins with the first sign."""
    # With g for the common divisor, each sign that has the same remainder by g as the first one
    # stands g times on the line, and no other sign does.
    common = gcd(rule.slope(step), n)
    return n * (first % common) + n * (n - common) // 2


def _main_sign_sizes(rule):
    """Return the calendar of the sizes for which a rule does its part for the sums of the main slants."""
    # As for all even sums; the slant from (n - 1, 0) begins with d - a, as a remainder by n.
    return (
        _divided_sizes(rule.slope(FALLING), 2 * rule.d + 1)
        & _divided_sizes(rule.slope(RISING), 2 * (rule.d - rule.a) + 1)
    )


def _divided_sizes(slope, bound):
    """Return the calendar of the sizes whose greatest common divisor with a slope divides a bound."""
    if bound == 0:
        return Calendar(1, [1], [])
    if slope == 0:
        return Calendar(1, [], divisor_list(abs(bound)))
    divisors = [divisor for divisor in divisor_list(abs(slope)) if bound % divisor == 0]
    return Calendar(abs(slope), divisors, [])
