"""Which tuples (a, b, d) of integers from 0 to n - 1 are rules that have the signs of seen cells.

A seen cell asks that 1 times d, plus its column times b, plus its row times a, has the same
remainder by n as its sign: an equation, told by the list [1, column, row, sign].
"""

from rulesquares.remainders import solved


def fitting_rules(n, cells):
    """Return (first, moves), None if no rule has the signs of all seen cells.

    The first of the fitting tuples in ascending order is first. All of them are reached from it by
    adding, as remainders by n, multiples of three moves: the first move changes a by a divisor of n,
    the second one leaves a as it is and changes b by such a divisor, the third one changes d alone.
    """
    rows = _triangle(n, [[1, column, row, sign] for row, column, sign in cells])
    if rows[3][3] != n:
        return None
    first = _completed(n, rows, [])
    moved = [row[:3] + [0] for row in rows]
    moves = [_completed(n, moved, [0] * at + [n // moved[2 - at][2 - at]]) for at in range(3)]
    return tuple(first), moves


def _triangle(n, equations):
    """Return four equations that say the same as some equations, each with one unknown less in front.

    The last one is left with the sign alone: if that is not n, the equations contradict each other.
    """
    # At first the rows say what is always so: n times each unknown has the remainder 0. With these among
    # what is taken together, the last rows have all that follows for the last unknowns alone.
    rows = [[n if column == at else 0 for column in range(4)] for at in range(4)]
    for equation in equations:
        rows = _narrowed(n, rows, equation)
    return rows


def _narrowed(n, rows, equation):
    """Return four equations that say what four such equations and one more say."""
    narrowed = []
    rest = [entry % n for entry in equation]
    for at, row in enumerate(rows):
        kept = row
        # Euclid's algorithm frees the rest from one more unknown, by steps that can be taken back.
        while rest[at] != 0:
            whole = kept[at] // rest[at]
            less = [(high - whole * low) % n for high, low in zip(kept, rest)]
            kept = rest
            rest = less
        narrowed.append(kept)
    return narrowed


def _completed(n, rows, known):
    """Return the list of a, b and d, of which the first ones are known, and each next one is least."""
    found = list(known)
    for at in reversed(range(3 - len(known))):
        row = rows[at]
        known_part = sum([factor * value for factor, value in zip(reversed(row[at + 1:3]), found)])
        found.append(solved(row[at], row[3] - known_part, n)[0])
    return found
