import inspect
import itertools
import unittest

import walked
from rulesquares import places
from rulesquares.errors import InvalidNumber, InvalidSize, SquareError
from rulesquares.numbers import Numbers
from rulesquares.places import cells_of, columns_of, overlap, rows_of
from rulesquares.rules import Rule
from wrong import Wrong

GREAT = 10 ** 30
FAR = 10 ** 59 + 7
RULES = [
    (0, 0, 0), (0, 0, 7), (1, 0, 0), (0, 1, -3), (1, 1, 0), (2, 1, 0), (1, 2, 5), (4, 2, 1), (1, 4, 0),
    (6, -9, 99), (-20, 15, -99), (12, 0, 6), (0, -18, 0), (3, 3, 1), (10, -6, 20), (8, 12, -5), (FAR, -FAR - 5, FAR),
]
PAIRS = list(itertools.product(RULES, repeat=2))
LISTED = (1, 2, 3, 4, 5, 6, 8, 9, 10, 12)


def spread(found):
    """The places as a list of all of them."""
    if found is None:
        return []
    first, apart, many = found
    return [first + apart * at for at in range(many)]


class InRowsAndColumns(unittest.TestCase):
    def check(self, found, expected, n):
        self.assertEqual(spread(found), expected)
        if not expected:
            self.assertIsNone(found)
        elif len(expected) == 1:
            self.assertEqual(found, (expected[0], n, 1))
        self.assertIn(type(found), (tuple, type(None)))

    def test_against_walked_squares(self):
        for n in walked.SIZES:
            for given in RULES:
                rule, line = Rule(*given), n * 5 // 7
                row = [walked.sign(given, n, line, at) for at in range(n)]
                column = [walked.sign(given, n, at, line) for at in range(n)]
                for sign in range(-2, n + 2):
                    self.check(columns_of(rule, n, line, sign), [at for at in range(n) if row[at] == sign], n)
                    self.check(rows_of(rule, n, line, sign), [at for at in range(n) if column[at] == sign], n)

    def test_all_rows_and_columns(self):
        for n, given in itertools.product(LISTED, RULES):
            rule = Rule(*given)
            for line, sign in walked.cells(n):
                row = [at for at in range(n) if walked.sign(given, n, line, at) == sign]
                column = [at for at in range(n) if walked.sign(given, n, at, line) == sign]
                self.check(columns_of(rule, n, line, sign), row, n)
                self.check(rows_of(rule, n, line, sign), column, n)

    def test_a_sign_in_all_places(self):
        self.assertEqual(columns_of(Rule(5, 0, 1), 7, 2, 4), (0, 1, 7))
        self.assertEqual(rows_of(Rule(0, 5, 1), GREAT, 2, 11), (0, 1, GREAT))
        self.assertEqual(columns_of(Rule(5, 0, 1), 1, 0, 0), (0, 1, 1))

    def test_great_sizes(self):
        rule = Rule(2, 6, 1)
        self.assertEqual(columns_of(rule, GREAT, 3, 19), (2, GREAT // 2, 2))
        self.assertEqual(columns_of(rule, GREAT, 3, 9), ((GREAT // 2 + 1) // 3, GREAT // 2, 2))
        self.assertIsNone(columns_of(rule, GREAT, 3, 20))
        self.assertEqual(rows_of(rule, GREAT + 1, 0, 0), (GREAT // 2, GREAT + 1, 1))

    def test_signs_that_are_none(self):
        rule = Rule(2, 1, 0)
        for sign in (-1, 5, 6, -FAR, FAR):
            self.assertIsNone(columns_of(rule, 5, 1, sign))
            self.assertIsNone(rows_of(rule, 5, 1, sign))

    def test_by_name(self):
        self.assertEqual(columns_of(rule=Rule(1, 4, 0), n=6, row=1, sign=3), (2, 3, 2))
        self.assertEqual(rows_of(rule=Rule(1, 4, 0), n=6, column=5, sign=0), (4, 6, 1))


class InCells(unittest.TestCase):
    def test_overlap_against_walked_squares(self):
        for n in LISTED:
            for one, other in PAIRS:
                found = {}
                for cell, pair in zip(walked.cells(n), zip(walked.signs(one, n), walked.signs(other, n))):
                    found.setdefault(pair, []).append(cell)
                for pair in walked.cells(n):
                    cells = found.get(pair)
                    expected = (len(cells), cells[0]) if cells else (0, None)
                    self.assertEqual(overlap(Rule(*one), Rule(*other), n, *pair), expected, (one, other, n, pair))

    def test_overlap_of_many_rules(self):
        entries = (-9, -4, 0, 1, 6, 8)
        for n in (8, 12, 18):
            for a, b, c, d in itertools.product(entries, repeat=4):
                one, other = (a, b, 2), (c, d, -1)
                pairs = list(zip(walked.signs(one, n), walked.signs(other, n)))
                for pair in [(2, n - 1), (5, 3), pairs[n * n * 2 // 3]]:
                    many = pairs.count(pair)
                    expected = (many, divmod(pairs.index(pair), n)) if many else (0, None)
                    self.assertEqual(overlap(Rule(*one), Rule(*other), n, *pair), expected, (one, other, n, pair))

    def test_cells_of_against_walked_squares(self):
        for n in LISTED:
            for high, low in PAIRS[::3]:
                square = Numbers(Rule(*high), Rule(*low))
                entries = walked.numbers((high, low), n)
                for number in range(-n, n * n + n + 1):
                    many = entries.count(number)
                    expected = (many, divmod(entries.index(number), n)) if many else (0, None)
                    self.assertEqual(cells_of(square, n, number), expected, (high, low, n, number))

    def test_sizes_up_to_thirty(self):
        for n in walked.SIZES:
            for one, other in PAIRS[::5]:
                pairs = list(zip(walked.signs(one, n), walked.signs(other, n)))
                for pair in {pairs[0], pairs[-1], pairs[n * n // 2], (0, 0), (n - 1, n // 2)}:
                    many = pairs.count(pair)
                    expected = (many, divmod(pairs.index(pair), n)) if many else (0, None)
                    self.assertEqual(overlap(Rule(*one), Rule(*other), n, *pair), expected)
                    square = Numbers(Rule(*one), Rule(*other))
                    self.assertEqual(cells_of(square, n, n * pair[0] + pair[1] + 1), expected)

    def test_signs_and_numbers_that_are_none(self):
        one, other = Rule(0, 0, 0), Rule(0, 0, 0)
        for sign in (-5, -1, 5, 10, FAR * 5, -FAR * 5):
            self.assertEqual(overlap(one, other, 5, sign, 0), (0, None))
            self.assertEqual(overlap(one, other, 5, 0, sign), (0, None))
        for number in (0, -1, 26, 51, -24, FAR, -FAR, 2):
            self.assertEqual(cells_of(Numbers(one, other), 5, number), (0, None))
        self.assertEqual(cells_of(Numbers(one, other), 5, 1), (25, (0, 0)))

    def test_size_one(self):
        for one, other in PAIRS:
            self.assertEqual(overlap(Rule(*one), Rule(*other), 1, 0, 0), (1, (0, 0)))
            self.assertEqual(cells_of(Numbers(Rule(*one), Rule(*other)), 1, 1), (1, (0, 0)))

    def test_great_sizes(self):
        one, other = Rule(2, 1, 0), Rule(1, 2, 0)
        n = GREAT + 1
        self.assertEqual(overlap(one, other, GREAT, 7, 8), (1, (2, 3)))
        self.assertEqual(overlap(Rule(1, 0, 5), Rule(0, 1, 9), n, 4, 8), (1, (GREAT, GREAT)))
        self.assertEqual(overlap(Rule(0, 0, 3), Rule(0, 0, -1), n, 3, GREAT), (n * n, (0, 0)))
        self.assertEqual(overlap(Rule(1, 1, 0), Rule(1, 1, 3), GREAT, 4, 7), (GREAT, (0, 4)))
        self.assertEqual(overlap(Rule(1, 1, 0), Rule(1, 1, 3), GREAT, 4, 8), (0, None))
        self.assertEqual(overlap(Rule(2, 0, 0), Rule(0, 5, 1), GREAT, 6, 11), (10, (3, 2)))
        self.assertEqual(overlap(Rule(0, 4, 0), Rule(0, 10, 0), GREAT, 8, 20), (2 * GREAT, (0, 2)))
        self.assertEqual(overlap(Rule(0, 4, 0), Rule(0, 10, 0), GREAT, 12, 20), (0, None))
        self.assertEqual(cells_of(Numbers(one, other), GREAT, 7 * GREAT + 9), (1, (2, 3)))
        self.assertEqual(
            cells_of(Numbers(Rule(1, 0, 0), Rule(0, 1, 0)), GREAT, GREAT * GREAT), (1, (GREAT - 1, GREAT - 1)))
        self.assertEqual(cells_of(Numbers(one, other), GREAT, GREAT * GREAT + 1), (0, None))

    def test_great_sizes_and_many_digits(self):
        # For each pair the cells are as many for all pairs of signs that stand anywhere.
        for n in (GREAT, GREAT - 1, 6 ** 38, 2 ** 99):
            for given, other_given in PAIRS:
                one, other = Rule(*given), Rule(*other_given)
                cell = (n // 3 + 1, n - 12345)
                many, first = overlap(one, other, n, one.sign(n, *cell), other.sign(n, *cell))
                self.assertEqual(many, overlap(one, other, n, one.sign(n, 0, 0), other.sign(n, 0, 0))[0])
                self.assertLessEqual(first, cell)
                self.assertEqual(one.sign(n, *first), one.sign(n, *cell))
                self.assertEqual(other.sign(n, *first), other.sign(n, *cell))

    def test_by_name(self):
        one, other = Rule(1, 1, 0), Rule(1, -1, 0)
        self.assertEqual(overlap(one=one, other=other, n=4, sign=2, other_sign=0), (2, (1, 1)))
        self.assertEqual(cells_of(square=Numbers(one, other), n=4, number=9), (2, (1, 1)))

    def test_kinds_of_values(self):
        found = overlap(Rule(1, 1, 0), Rule(1, -1, 0), 4, 2, 0)
        self.assertEqual((type(found), type(found[1])), (tuple, tuple))


class WrongInputs(Wrong):
    def test_sizes(self):
        rule = Rule(2, 1, 0)
        for n in (0, -1, -GREAT):
            self.check(InvalidSize, n, columns_of, rule, n, 0, 0)
            self.check(InvalidSize, n, rows_of, rule, n, 0, 0)
            self.check(InvalidSize, n, overlap, rule, rule, n, 0, 0)
            self.check(InvalidSize, n, cells_of, Numbers(rule, rule), n, 1)

    def test_rows_and_columns(self):
        rule = Rule(2, 1, 0)
        for line in (-1, 3, 4, -FAR, FAR):
            self.check(InvalidNumber, line, columns_of, rule, 3, line, 0)
            self.check(InvalidNumber, line, rows_of, rule, 3, line, 0)
        self.check(InvalidNumber, 1, columns_of, rule, 1, 1, 0)
        self.check(InvalidNumber, GREAT, rows_of, rule, GREAT, GREAT, 0)

    def test_which_error_comes_first(self):
        rule = Rule(2, 1, 0)
        self.check(InvalidSize, 0, columns_of, rule, 0, -1, 9)
        self.check(InvalidSize, -2, rows_of, rule, -2, 7, -9)
        self.check(InvalidNumber, -1, columns_of, rule, 3, -1, 9)
        self.check(InvalidNumber, 3, rows_of, rule, 3, 3, -9)
        self.check(InvalidSize, 0, overlap, rule, rule, 0, -1, 9)
        self.check(InvalidSize, 0, cells_of, Numbers(rule, rule), 0, 0)

    def test_greater_sizes_are_no_error(self):
        n = 10 ** 45
        self.assertEqual(columns_of(Rule(1, 1, 0), n, 4, 3), (n - 1, n, 1))
        self.assertEqual(overlap(Rule(2, 1, 0), Rule(1, 2, 0), n, 7, 8), (1, (2, 3)))


class Values(unittest.TestCase):
    def test_answers_stay_after_other_questions(self):
        one, other = Rule(6, -9, 4), Rule(2, 4, 0)
        square = Numbers(one, other)

        def answers():
            return [
                (one.a, one.b, one.d), (square.high, square.low), columns_of(one, 12, 2, 7), rows_of(one, 12, 3, 1),
                cells_of(square, 12, 17), overlap(one, other, 12, 1, 6), overlap(other, one, 12, 6, 1),
            ]

        before = answers()
        self.assertNotIn(None, before)
        for call in (lambda: columns_of(one, 0, 0, 0), lambda: rows_of(one, 3, 3, 0), lambda: cells_of(square, 0, 1)):
            with self.assertRaises(SquareError):
                call()
        (columns_of(other, 5, 1, 1), cells_of(square, 9, 80), overlap(one, one, 8, 2, 3))
        self.assertEqual(answers(), before)

    def test_interface(self):
        wanted = {
            "columns_of": "rule n row sign", "rows_of": "rule n column sign", "cells_of": "square n number",
            "overlap": "one other n sign other_sign",
        }
        for name, given in wanted.items():
            function = getattr(places, name)
            self.assertEqual(function.__module__, "rulesquares.places")
            self.assertEqual(list(inspect.signature(function).parameters), given.split())
