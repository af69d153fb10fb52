"""Squares that are walked cell by cell, in the document's own words and without the package."""

from math import gcd

REACH = 30
SIZES = range(1, REACH + 1)
STEPS = [(0, 1), (1, 0), (1, 1), (-1, 1), (0, 0), (2, 0), (0, -3), (2, -1), (-5, 4), (3, 5)]
TURNS = [
    ("same", lambda n, r, c: (r, c)),
    ("quarter", lambda n, r, c: (n - 1 - c, r)),
    ("half", lambda n, r, c: (n - 1 - r, n - 1 - c)),
    ("back", lambda n, r, c: (c, n - 1 - r)),
    ("flip", lambda n, r, c: (n - 1 - r, c)),
    ("mirror", lambda n, r, c: (r, n - 1 - c)),
    ("cross", lambda n, r, c: (c, r)),
    ("anti", lambda n, r, c: (n - 1 - c, n - 1 - r)),
]


def sign(rule, n, row, column):
    a, b, d = rule
    return (a * row + b * column + d) % n


def cells(n):
    """All cells, by row, then by column."""
    return [(row, column) for row in range(n) for column in range(n)]


def signs(rule, n):
    """The signs of all cells, in this order."""
    return [sign(rule, n, row, column) for row, column in cells(n)]


def numbers(square, n):
    """The numbers of all cells of a pair of rules, in this order."""
    high, low = square
    return [n * one + other + 1 for one, other in zip(signs(high, n), signs(low, n))]


def line(n, step, cell):
    """The cells of the line with a step from a cell on."""
    found = [cell]
    while len(found) < n:
        row, column = found[-1]
        found.append(((row + step[0]) % n, (column + step[1]) % n))
    return found


def lines(n, step):
    """The line from each cell on, each as the places that its cells have in the list of all cells."""
    return [[row * n + column for row, column in line(n, step, cell)] for cell in cells(n)]


def clear(entries, walked):
    """Whether each of the lines has each of the signs exactly once."""
    n = len(walked[0])
    every = list(range(n))
    return all(sorted([entries[at] for at in places]) == every for places in walked)


def sums(entries, walked):
    """The sum of each of the lines."""
    return [sum([entries[at] for at in places]) for places in walked]


def paired(one, other, n):
    """Whether each pair of signs stands in exactly one cell."""
    return sorted(zip(signs(one, n), signs(other, n))) == cells(n)


def once(square, n):
    """Whether each number from 1 to n times n stands in exactly one cell."""
    return sorted(numbers(square, n)) == list(range(1, n * n + 1))


def even(n):
    """The even sum: that of all numbers, shared by n lines."""
    return sum(range(1, n * n + 1)) // n


def mains(entries, n):
    """The sums of the cells with the same row and column, and of those with the sum n - 1 of both."""
    return (
        sum(entries[at] for at, (row, column) in enumerate(cells(n)) if row == column),
        sum(entries[at] for at, (row, column) in enumerate(cells(n)) if row + column == n - 1),
    )


def told(calendar, sizes=SIZES):
    """The sizes in a calendar, as `in` tells."""
    return [n for n in sizes if n in calendar]


def is_told_least(calendar):
    """Whether a calendar is told as the document wants it, with extra sizes that are needed."""
    number, divisors, extra = calendar.number, calendar.divisors, calendar.extra
    if divisors != sorted(set(divisors)) or extra != sorted(set(extra)):
        return False
    if any(number % divisor for divisor in divisors):
        return False
    for least in range(1, number):
        if number % least == 0 and not any(
            (gcd(least, divisor) in [gcd(least, other) for other in divisors]) != (divisor in divisors)
            for divisor in range(1, number + 1) if number % divisor == 0
        ):
            return False
    return True
