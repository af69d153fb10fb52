import itertools
import unittest

from rulesquares.remainders import met, shared_columns, shared_rows, solved


def spread(told, reach):
    return [] if told is None else [x for x in range(reach) if x >= told[0] and (x - told[0]) % told[1] == 0]


class Remainders(unittest.TestCase):
    def test_solved(self):
        for n in range(1, 25):
            for factor, wanted in itertools.product(range(-n - 1, n + 2), repeat=2):
                told = solved(factor, wanted, n)
                found = [x for x in range(2 * n) if (factor * x - wanted) % n == 0]
                self.assertEqual(spread(told, 2 * n), found)
                if told is not None:
                    self.assertTrue(0 <= told[0] < told[1] and n % told[1] == 0)

    def test_met(self):
        for apart, other_apart in itertools.product(range(1, 13), repeat=2):
            for one, other in itertools.product(range(apart), range(other_apart)):
                told = met((one, apart), (other, other_apart))
                reach = 2 * apart * other_apart
                found = [x for x in range(reach) if x % apart == one and x % other_apart == other]
                self.assertEqual(spread(told, reach), found)
        self.assertIsNone(met(None, (0, 1)))
        self.assertIsNone(met((0, 1), None))

    def test_shared_rows_and_columns(self):
        for n in (1, 2, 4, 6, 9):
            for a, b, c, d in itertools.product((-3, 0, 2, 4), repeat=4):
                for wanted, other_wanted in [(0, 0), (1, 0), (-2, 4), (5, 3)]:
                    self.check((a, b, wanted), (c, d, other_wanted), n)

    def check(self, one, other, n):
        found = [
            (row, column) for row in range(n) for column in range(n)
            if (one[0] * row + one[1] * column - one[2]) % n == 0
            and (other[0] * row + other[1] * column - other[2]) % n == 0
        ]
        rows = spread(shared_rows(one, other, n), n)
        self.assertEqual(rows, sorted({row for row, _ in found}))
        for row in range(n):
            columns = spread(shared_columns(one, other, n, row), n)
            self.assertEqual(columns, [column for at, column in found if at == row])

    def test_given_tuples_stay(self):
        one, other = (4, 6, 1), (2, 8, -3)
        shared_rows(one, other, 12)
        self.assertEqual((one, other), ((4, 6, 1), (2, 8, -3)))
