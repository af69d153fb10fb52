"""Lines with each sign once, and rules that show all pairs or have the same square."""

from math import gcd

from rulesquares.calendars import Calendar
from rulesquares.checks import check_size
from rulesquares.factors import divisor_list, prime_product
from rulesquares.remainders import shared_columns, shared_rows
from rulesquares.rules import WAYS

ROWS = (0, 1)
COLUMNS = (1, 0)


def is_clear(rule, n, step):
    """Return whether each line with a step has each sign exactly once for n."""
    check_size(n)
    return gcd(rule.slope(step), n) == 1


def clear_sizes(rule, steps):
    """Return the calendar of the sizes for which a rule is clear on all steps."""
    return _coprime_sizes([rule.slope(step) for step in steps])


def is_paired(one, other, n):
    """Return whether two rules show each pair of signs in exactly one cell for n."""
    check_size(n)
    return gcd(_cross_number(one, other), n) == 1


def pair_sizes(one, other):
    """Return the calendar of the sizes for which two rules are paired."""
    return _coprime_sizes([_cross_number(one, other)])


def same_sizes(one, other):
    """Return the calendar of the sizes for which two rules have the same square."""
    common = gcd(one.a - other.a, one.b - other.b, one.d - other.d)
    if common == 0:
        return Calendar(1, [1], [])
    return Calendar(1, [], divisor_list(common))


def same_turned(one, other):
    """Return the pairs (way, calendar): when the one has the square of the other turned in this way."""
    return [(way, same_sizes(one, other.turned(way))) for way in WAYS]


def quarrel(rule, n, step):
    """Return the next cell with the sign of (0, 0) on its line, None if the rule is clear."""
    if is_clear(rule, n, step):
        return None
    down, right = step
    entry = n // gcd(rule.slope(step), n)
    return down * entry % n, right * entry % n


def twins(one, other, n):
    """Return (0, 0) and the first other cell with the same pair of signs, None if the rules are paired."""
    if is_paired(one, other, n):
        return None
    asked = (one.a, one.b, 0)
    other_asked = (other.a, other.b, 0)
    _, apart = shared_columns(asked, other_asked, n, 0)
    if apart < n:
        return (0, 0), (0, apart)
    _, row = shared_rows(asked, other_asked, n)
    column, _ = shared_columns(asked, other_asked, n, row)
    return (0, 0), (row, column)


def _cross_number(one, other):
    """Return the cross number of two rules."""
    return one.a * other.b - other.a * one.b


def _coprime_sizes(numbers):
    """Return the calendar of the sizes that have only 1 as a common divisor with each of some numbers."""
    product = prime_product(numbers)
    if product == 0:
        return Calendar(1, [], [1])
    return Calendar(product, [1], [])
