import itertools
import unittest

import walked
from rulesquares.errors import InvalidCell, InvalidNumber, InvalidSize, SquareError
from rulesquares.joined import Joined
from rulesquares.rules import Rule
from wrong import Wrong

GREAT = 10 ** 30
FAR = 10 ** 61
RULES = [
    (0, 0, 0), (0, 0, 7), (1, 1, 0), (2, 1, 0), (1, 2, 5), (0, 1, -3), (4, 2, 1), (6, -9, 99), (3, 0, 1), (-5, 7, 2),
]
PARTS = [(1, 1), (1, 2), (2, 1), (1, 5), (5, 1), (2, 2), (2, 3), (3, 2), (3, 3), (4, 2), (3, 5), (6, 4)]
LAST = 10 ** 59 + 7


def made(outer, m, inner, k):
    return Joined(Rule(*outer), m, Rule(*inner), k)


def rows_of(outer, m, inner, k):
    """The rows of a square that is put together, cell by cell."""
    return [
        [
            k * walked.sign(outer, m, row // k, column // k) + walked.sign(inner, k, row % k, column % k)
            for column in range(m * k)
        ]
        for row in range(m * k)
    ]


def has_all(lines):
    return all(sorted(line) == list(range(len(line))) for line in lines)


class Signs(unittest.TestCase):
    def test_cell_by_cell(self):
        for (m, k), outer, inner in itertools.product(PARTS, RULES, RULES):
            square = made(outer, m, inner, k)
            rows = rows_of(outer, m, inner, k)
            self.assertEqual(square.size, len(rows))
            found = [[square.sign(row, column) for column in range(m * k)] for row in range(m * k)]
            self.assertEqual(found, rows, (outer, m, inner, k))

    def test_great_sizes(self):
        square = made((2, 1, 0), GREAT, (1, 3, 5), GREAT)
        self.assertEqual(square.size, GREAT ** 2)
        self.assertEqual(square.sign(3 * GREAT + 7, 4 * GREAT + 1), 10 * GREAT + 15)
        self.assertEqual(square.sign(GREAT ** 2 - 1, GREAT ** 2 - 1), (GREAT - 3) * GREAT + 1)
        far = made((LAST, -LAST, 1), GREAT, (0, LAST, LAST), 7)
        self.assertEqual(far.sign(7, 1), 7 * ((LAST + 1) % GREAT) + 2 * LAST % 7)

    def test_by_name(self):
        square = Joined(outer=Rule(1, 1, 0), m=3, inner=Rule(1, 1, 0), k=5)
        self.assertEqual((square.sign(row=7, column=4), square.place(row=7, sign=6)), (6, [4]))
        self.assertIs(square.paired(other=square), False)


class Clear(unittest.TestCase):
    def test_against_all_cells(self):
        answers = []
        for (m, k), outer, inner in itertools.product(PARTS, RULES, RULES):
            square, rows = made(outer, m, inner, k), rows_of(outer, m, inner, k)
            answers += [square.rows_clear(), square.columns_clear()]
            self.assertIs(answers[-2], has_all(rows), (outer, m, inner, k))
            self.assertIs(answers[-1], has_all(list(zip(*rows))), (outer, m, inner, k))
        self.assertGreater(min(answers.count(True), answers.count(False)), 300)

    def test_great_sizes(self):
        self.assertIs(made((2, 3, 0), GREAT, (5, 17, 0), GREAT - 1).rows_clear(), True)
        self.assertIs(made((2, 3, 0), GREAT, (5, 17, 0), GREAT - 1).columns_clear(), False)
        self.assertIs(made((3, 2, 0), GREAT, (5, 17, 0), GREAT - 1).rows_clear(), False)
        self.assertIs(made((3, 2, 0), GREAT, (5, 17, 0), GREAT - 1).columns_clear(), True)
        self.assertIs(made((3, 3, 0), GREAT, (3, 3, 0), GREAT - 1).columns_clear(), False)
        self.assertIs(made((3, 3, 0), GREAT, (3, 3, 0), GREAT - 1).rows_clear(), False)


class Pairs(unittest.TestCase):
    def test_against_all_cells(self):
        answers = []
        for m, k in [(1, 1), (1, 3), (3, 1), (2, 3), (3, 3), (5, 2)]:
            entries = {
                (outer, inner): [sign for row in rows_of(outer, m, inner, k) for sign in row]
                for outer, inner in itertools.product(RULES[1:8], repeat=2)
            }
            for (one, signs), (other, other_signs) in itertools.product(entries.items(), repeat=2):
                expected = len(set(zip(signs, other_signs))) == (m * k) ** 2
                found = made(one[0], m, one[1], k).paired(made(other[0], m, other[1], k))
                self.assertIs(found, expected, (one, other, m, k))
                answers.append(found)
        self.assertGreater(min(answers.count(True), answers.count(False)), 300)

    def test_great_sizes(self):
        one, other = (2, 1, 0), (1, 2, 0)
        for m, k, expected in [(GREAT, GREAT, True), (GREAT - 1, GREAT, False), (GREAT, GREAT - 1, False)]:
            self.assertIs(made(one, m, one, k).paired(made(other, m, other, k)), expected)
        self.assertIs(made(one, GREAT, one, GREAT).paired(made(other, GREAT, one, GREAT)), False)


class Places(unittest.TestCase):
    def test_against_the_row(self):
        for (m, k), outer, inner in itertools.product(PARTS, RULES, RULES):
            square, size = made(outer, m, inner, k), m * k
            rows = rows_of(outer, m, inner, k)
            for row in {0, size - 1, size // 2, size // 3}:
                for sign in range(-2, size + 2):
                    expected = [column for column in range(size) if rows[row][column] == sign][:40]
                    self.assertEqual(square.place(row, sign), expected, (outer, m, inner, k, row, sign))

    def test_more_than_forty_columns(self):
        for outer, m, inner, k in [
            ((0, 0, 0), 9, (0, 0, 0), 9), ((0, 0, 0), 1, (0, 0, 0), 41), ((1, 0, 0), 41, (3, 0, 0), 1),
            ((1, 6, 0), 12, (0, 4, 0), 16), ((0, 0, 2), 8, (1, 0, 0), 5), ((0, 0, 2), 8, (1, 5, 0), 10),
            ((0, 1, 0), 3, (0, 0, 0), 40), ((0, 30, 0), 60, (0, 1, 0), 2), ((0, 1, 0), 2, (0, 2, 0), 90),
        ]:
            square, rows = made(outer, m, inner, k), rows_of(outer, m, inner, k)
            for row, sign in itertools.product({0, 1, m * k - 1}, set(rows[0] + rows[1])):
                expected = [column for column, other in enumerate(rows[row]) if other == sign][:40]
                self.assertEqual(square.place(row, sign), expected)
        self.assertEqual(made((0, 0, 0), 1, (0, 0, 0), 41).place(0, 0), list(range(40)))
        self.assertEqual(made((0, 0, 0), 1, (0, 0, 0), 40).place(0, 0), list(range(40)))

    def test_signs_that_are_none(self):
        square = made((0, 0, 2), 3, (0, 1, 0), 5)
        self.assertEqual([square.place(4, sign) for sign in (-FAR, -1, 9, 15, 16, 25, FAR)], [[]] * 7)
        self.assertEqual([square.place(4, sign) for sign in (10, 14)], [[0, 5, 10], [4, 9, 14]])

    def test_great_sizes(self):
        square = made((0, 2, 0), GREAT, (0, 5, 0), GREAT)
        inner = [GREAT // 5 * at + 2 for at in range(5)]
        expected = [GREAT * outer + column for outer in (2, GREAT // 2 + 2) for column in inner]
        self.assertEqual(square.place(GREAT + 3, 4 * GREAT + 10), expected)
        self.assertEqual(square.place(GREAT + 3, 3 * GREAT + 10), [])
        self.assertEqual(square.place(GREAT + 3, 4 * GREAT + 11), [])
        flat = made((1, 0, 0), GREAT, (0, 0, 6), GREAT)
        self.assertEqual(flat.place(7 * GREAT + 1, 7 * GREAT + 6), list(range(40)))
        self.assertEqual(flat.place(7 * GREAT + 1, 6), [])
        some = made((1, 0, 0), GREAT, (0, 10 ** 29, 0), GREAT)
        self.assertEqual(some.place(0, 10 ** 29), [1 + 10 * at for at in range(40)])
        outer = made((0, 10 ** 29, 0), GREAT, (0, 1, 0), GREAT)
        self.assertEqual(outer.place(0, 5), [5 + GREAT * 10 * at for at in range(40)])


class Equality(unittest.TestCase):
    def test_rules_and_sizes_decide(self):
        given = ((1, 1, 0), 3, (2, 1, 0), 4)
        others = [
            ((1, 1, 3), 3, (2, 1, 0), 4), ((1, 1, 0), 4, (2, 1, 0), 3), ((1, 1, 0), 3, (2, 1, 4), 4),
            ((1, 1, 0), 3, (2, 1, 0), 5), ((2, 1, 0), 3, (1, 1, 0), 4), ((1, 1, 0), 2, (2, 1, 0), 4),
        ]
        self.assertIs(made(*given) == made(*given), True)
        self.assertIs(made(*given) != made(*given), False)
        for other in others:
            self.assertIs(made(*given) == made(*other), False)
            self.assertIs(made(*given) != made(*other), True)
        for other in (given, 12, None, "x", Rule(1, 1, 0), []):
            self.assertIs(made(*given) == other, False)


class WrongInputs(Wrong):
    def test_sizes(self):
        rule = Rule(1, 1, 0)
        for n in (0, -1, -FAR):
            self.check(InvalidSize, n, Joined, rule, n, rule, 3)
            self.check(InvalidSize, n, Joined, rule, 3, rule, n)
            self.check(InvalidSize, n, Joined, rule, n, rule, -7)

    def test_cells(self):
        square = made((1, 1, 0), 3, (1, 1, 0), 2)
        for cell in [(-1, 0), (0, -1), (6, 0), (0, 6), (FAR, 1), (1, -FAR), (6, -1)]:
            self.check(InvalidCell, cell, square.sign, *cell)
        self.assertEqual(square.sign(5, 5), 2)

    def test_rows(self):
        square = made((1, 1, 0), 3, (1, 1, 0), 2)
        for row in (-1, 6, 7, FAR, -FAR):
            for sign in (0, -1, 6):
                self.check(InvalidNumber, row, square.place, row, sign)

    def test_pairs_of_unlike_sizes(self):
        one = made((1, 1, 0), 3, (1, 1, 0), 4)
        for m, k in [(4, 3), (3, 5), (2, 4), (12, 1), (1, 12), (GREAT, 4)]:
            self.check(InvalidSize, m * k, one.paired, made((2, 1, 0), m, (2, 1, 0), k))
            self.check(InvalidSize, 12, made((2, 1, 0), m, (2, 1, 0), k).paired, one)


class Values(unittest.TestCase):
    def test_returned_lists_are_new(self):
        square = made((0, 0, 0), 3, (1, 1, 0), 2)
        first, second = square.place(0, 1), square.place(0, 1)
        self.assertEqual((first, type(first)), ([1, 3, 5], list))
        self.assertIsNot(first, second)
        first.clear()
        square.place(0, 9).append(4)
        self.assertEqual((square.place(0, 1), square.place(0, 9)), (second, []))

    def test_answers_stay_after_other_questions(self):
        one, other = made((1, 1, 0), 3, (1, 1, 0), 5), made((2, 1, 0), 3, (2, 1, 0), 5)

        def answers():
            return [
                one.size, one.sign(7, 4), one.rows_clear(), one.columns_clear(), one.paired(other), one.place(7, 6),
                one == other, one == made((1, 1, 0), 3, (1, 1, 0), 5), other.paired(one), other.place(0, 14),
            ]

        before = answers()
        third = made((1, 1, 0), 5, (1, 1, 0), 3)
        for call in (lambda: one.sign(15, 0), lambda: one.place(-1, 0), lambda: one.paired(third)):
            with self.assertRaises(SquareError):
                call()
        self.assertEqual(answers(), before)
