import inspect
import itertools
import unittest

import walked
from rulesquares import numbers
from rulesquares.calendars import Calendar
from rulesquares.errors import InvalidCell, InvalidSize, SquareError
from rulesquares.numbers import (
    Numbers, alike_sizes, even_sizes, even_sum, magic_sizes, main_sizes, once_sizes, unlike_line, whole_sizes)
from rulesquares.rules import Rule
from wrong import Wrong

GREAT = 10 ** 30
FAR = 10 ** 59 + 7
# In some of them a line has the even sum only because of what d is, as a remainder by some divisor of n.
SQUARES = [
    ((1, 0, 0), (0, 1, 0)), ((1, 2, 1), (2, -1, 0)), ((1, 1, 0), (1, -1, 0)), ((2, 1, 0), (1, 2, 0)),
    ((0, 0, 0), (0, 0, 0)), ((0, 0, 4), (0, 0, 7)), ((0, 0, -5), (1, 2, 3)), ((1, 2, 3), (0, 0, 52)),
    ((3, 0, 1), (0, 3, 1)), ((3, 3, 1), (3, -6, 4)), ((9, 9, 4), (9, 0, -5)), ((6, -9, 1), (5, 5, 2)),
    ((5, 5, 2), (5, -5, 7)), ((5, 0, 7), (0, 5, 7)), ((-9, 9, -14), (9, 9, 13)), ((7, -7, 3), (7, 7, 10)),
    ((2, 1, 5), (2, 1, 5)), ((4, 2, 0), (2, 1, 0)), ((8, -4, 3), (6, 2, 1)), ((1, 3, 0), (3, 1, 99)),
    ((2, 3, 1), (3, -2, -1)), ((-1, 2, 0), (2, 1, 4)), ((3, 5, 0), (-5, 3, 1)), ((1, 1, 1), (1, 2, 4)),
    ((3, 6, -99), (9, 7, 98)), ((0, 7, 3), (0, 0, 1)), ((0, 0, 1), (7, 0, 3)), ((0, 3, 1), (0, 9, 13)),
    ((1, 4, 2), (4, -1, 2)), ((1, 3, 4), (3, -1, 7)), ((3, 4, 1), (4, -3, 1)), ((1, -2, 1), (2, 1, 2)),
    ((1, 1, 4), (1, 2, 3)), ((1, -1, 3), (1, 2, 3)), ((1, 2, 3), (1, 1, 4)), ((1, 2, 3), (1, -1, 3)),
]


def made(given):
    high, low = given
    return Numbers(Rule(*high), Rule(*low))


class Walks:
    """What the walked squares say, worked out once for all tests of this file."""

    def __init__(self):
        self.alike, self.even, self.unlike = {}, {}, {}
        self.once, self.main = {}, {}
        for n in walked.SIZES:
            entries = {given: walked.numbers(given, n) for given in SQUARES}
            for step in walked.STEPS:
                places = walked.lines(n, step)
                for given in SQUARES:
                    self.note(given, step, n, walked.sums(entries[given], places))
            for given in SQUARES:
                self.once[given, n] = walked.once(given, n)
                self.main[given, n] = walked.mains(entries[given], n) == (walked.even(n),) * 2

    def note(self, given, step, n, sums):
        unlike = [at for at in range(n * n) if sums[at] != sums[0]]
        self.alike[given, step, n] = not unlike
        self.unlike[given, step, n] = (unlike[0] // n, unlike[0] % n) if unlike else None
        self.even[given, step, n] = set(sums) == {walked.even(n)}

    def magic(self, given, n, steps):
        lines = all(self.even[given, step, n] for step in steps)
        return self.once[given, n] and self.main[given, n] and lines


class Calendars(unittest.TestCase):
    @classmethod
    def setUpClass(cls):
        cls.walks = Walks()

    def check(self, sizes, given, inside):
        self.assertEqual(walked.told(sizes), [n for n in walked.SIZES if inside(n)], given)
        self.assertTrue(walked.is_told_least(sizes), given)

    def test_alike_sizes(self):
        for given, step in itertools.product(SQUARES, walked.STEPS):
            self.check(alike_sizes(made(given), step), given, lambda n: self.walks.alike[given, step, n])

    def test_unlike_line(self):
        for given, step in itertools.product(SQUARES, walked.STEPS):
            for n in walked.SIZES:
                self.assertEqual(
                    unlike_line(made(given), n, step), self.walks.unlike[given, step, n], (given, step, n))

    def test_even_sizes(self):
        for given, step in itertools.product(SQUARES, walked.STEPS):
            self.check(even_sizes(made(given), step), given, lambda n: self.walks.even[given, step, n])

    def test_once_sizes(self):
        for given in SQUARES:
            self.check(once_sizes(made(given)), given, lambda n: self.walks.once[given, n])

    def test_main_sizes(self):
        for given in SQUARES:
            self.check(main_sizes(made(given)), given, lambda n: self.walks.main[given, n])

    def test_magic_sizes(self):
        steps = [(0, 1), (1, 0)]
        for given in SQUARES:
            self.check(magic_sizes(made(given)), given, lambda n: self.walks.magic(given, n, steps))

    def test_whole_sizes(self):
        steps = [(0, 1), (1, 0), (1, 1), (-1, 1)]
        for given in SQUARES:
            self.check(whole_sizes(made(given)), given, lambda n: self.walks.magic(given, n, steps))

    def test_the_samples_show_all_cases(self):
        walks = self.walks
        several = [walks.alike, walks.even, walks.once, walks.main]
        for found in several:
            self.assertEqual(set(found.values()), {True, False})
        self.assertEqual(set(walks.unlike.values()), {None, (0, 1), (1, 0)})
        even = [key for key in walks.even if walks.even[key] and key[2] > 1 and not walks.alike[key]]
        self.assertEqual(even, [])
        self.assertTrue([key for key in walks.even if walks.alike[key] and not walks.even[key]])
        self.assertTrue([key for key in walks.once if walks.once[key] and not walks.main[key]])
        magic = [key for key in walks.once if walks.magic(*key, [(0, 1), (1, 0)])]
        # Each of the two kinds of slants is what a magic square may lack alone.
        slants = [(walks.even[given, (1, 1), n], walks.even[given, (-1, 1), n]) for given, n in magic if n > 1]
        self.assertEqual(set(slants), {(True, True), (True, False), (False, True), (False, False)})
        lacking = [key for key in walks.once if walks.once[key] and walks.main[key] and key not in magic]
        rows = {(walks.even[given, (0, 1), n], walks.even[given, (1, 0), n]) for given, n in lacking}
        self.assertEqual(rows, {(True, False), (False, True), (False, False)})


class ManySquares(unittest.TestCase):
    """Squares with all kinds of numbers, at a few sizes."""

    def test_sums_of_lines(self):
        rules = list(itertools.product((-9, -4, 0, 3, 5), (-6, -1, 0, 2, 9), (-2, 1, 4, 7)))
        squares = list(zip(rules, rules[37:] + rules[:37])) + list(zip(rules, rules))
        for n in (1, 2, 3, 4, 6, 9):
            for step in [(0, 1), (1, 1), (-1, 1), (3, -2)]:
                places = walked.lines(n, step)
                for given in squares:
                    sums = walked.sums(walked.numbers(given, n), places)
                    square = made(given)
                    self.assertIs(n in alike_sizes(square, step), len(set(sums)) == 1)
                    self.assertIs(n in even_sizes(square, step), set(sums) == {walked.even(n)})
                    unlike = [at for at in range(n * n) if sums[at] != sums[0]]
                    expected = (unlike[0] // n, unlike[0] % n) if unlike else None
                    self.assertEqual(unlike_line(square, n, step), expected)

    def test_main_slants(self):
        rules = list(itertools.product(range(-9, 10, 3), range(-8, 9, 4), (-3, 0, 1, 2, 7)))
        for n in range(1, 16):
            for given in zip(rules, rules[41:] + rules[:41]):
                mains = walked.mains(walked.numbers(given, n), n)
                self.assertEqual(made(given).main_sums(n), mains)
                self.assertIs(n in main_sizes(made(given)), mains == (walked.even(n),) * 2)


class FarSizes(unittest.TestCase):
    """Sizes above those that are walked in all cases."""

    def test_all_steps(self):
        sizes = (1, 2, 7, 15, 45, 63, 83, 90, 3 * 10 ** 29, GREAT - 1, GREAT)
        for given in SQUARES + [((9, 8, 99), (-9, 7, -99)), ((9, 9, -95), (-9, -9, 94))]:
            square = made(given)
            for step in itertools.product(range(-5, 6), repeat=2):
                alike, even = alike_sizes(square, step), even_sizes(square, step)
                for n in sizes:
                    first = square.line_sum(n, step, 0, 0)
                    cell = unlike_line(square, n, step)
                    self.assertIs(n in alike, cell is None)
                    self.assertIs(n in even, cell is None and first == even_sum(n))
                    if cell is not None:
                        self.assertNotEqual(square.line_sum(n, step, *cell), first)
                    for other in [(0, n // 2), (n // 2, 0), (n - 1, n // 3)]:
                        self.assertTrue(cell is not None or square.line_sum(n, step, *other) == first)

    def test_all_kinds_of_magic(self):
        rules = [Rule(a, b, a * b + 1) for a in range(-9, 10, 3) for b in range(-8, 10, 4)]
        for high, low in itertools.product(rules, repeat=2):
            square = Numbers(high, low)
            magic, whole = magic_sizes(square), whole_sizes(square)
            for n in (1, 3, 5, 7, 11, 35, 143, 10 ** 30 + 1):
                lines = [n in even_sizes(square, step) for step in [(0, 1), (1, 0)]]
                mains = square.main_sums(n) == (even_sum(n),) * 2
                self.assertIs(n in magic, n in once_sizes(square) and all(lines) and mains)
                slants = [n in even_sizes(square, step) for step in [(1, 1), (-1, 1)]]
                self.assertIs(n in whole, n in magic and all(slants))

    def test_slopes_with_a_greater_prime(self):
        square, step = made(((7, 6, 20), (5, 8, 20))), (1, 5)
        self.assertEqual([square.high.slope(step), square.low.slope(step)], [37, 45])
        self.assertEqual([alike_sizes(square, step).number, even_sizes(square, step).number], [555, 555])
        for n in (36, 37, 41, 74):
            sums = walked.sums(walked.numbers(((7, 6, 20), (5, 8, 20)), n), walked.lines(n, step))
            self.assertIs(n in alike_sizes(square, step), len(set(sums)) == 1)
            self.assertIs(n in even_sizes(square, step), set(sums) == {walked.even(n)})

    def test_finitely_many_sizes(self):
        sizes = even_sizes(made(((0, 0, 52), (0, 0, -53))), (1, 1))
        self.assertEqual((sizes.number, sizes.divisors, sizes.extra), (1, [], [1, 3, 5, 7, 15, 21, 35, 105]))
        sizes = alike_sizes(made(((6, 9, 0), (1, 1, 1))), (3, -2))
        self.assertEqual((sizes.number, sizes.divisors, sizes.extra), (1, [], [1, 3]))
        sizes = alike_sizes(made(((0, 0, 5), (0, 0, 99))), (0, 1))
        self.assertEqual((sizes.number, sizes.divisors, sizes.extra), (1, [1], []))
        sizes = main_sizes(made(((9, -9, 99), (0, 1, 0))))
        self.assertEqual((sizes.number, sizes.divisors, sizes.extra), (1, [], [1, 199]))
        sizes = main_sizes(made(((-9, -9, 99), (0, 1, 0))))
        self.assertEqual((sizes.number, sizes.divisors, sizes.extra), (1, [], [1, 7, 31, 217]))
        for n in (7, 31, 62, 217):
            self.assertIs(made(((-9, -9, 99), (0, 1, 0))).main_sums(n)[1] == even_sum(n), n != 62)

    def test_chosen_divisors_above_one(self):
        sizes = even_sizes(made(((3, 3, 1), (3, 6, 1))), (3, 3))
        self.assertEqual((sizes.number, sizes.divisors, sizes.extra), (18, [1, 3], []))
        sizes = alike_sizes(made(((4, 4, 0), (4, 4, 1))), (2, 2))
        self.assertEqual((sizes.number, sizes.divisors, sizes.extra), (8, [1, 2, 4], []))


class Sums(unittest.TestCase):
    def test_line_sum_against_walked_lines(self):
        for n in (1, 2, 3, 4, 5, 6, 8, 9, 12):
            for step in walked.STEPS:
                places = walked.lines(n, step)
                for given in SQUARES:
                    sums = walked.sums(walked.numbers(given, n), places)
                    square = made(given)
                    found = [square.line_sum(n, step, row, column) for row, column in walked.cells(n)]
                    self.assertEqual(found, sums, (given, n, step))

    def test_line_sum_counts_a_cell_as_often_as_it_stands_there(self):
        plain = made(((1, 0, 0), (0, 1, 0)))
        self.assertEqual(plain.line_sum(4, (0, 0), 1, 2), 4 * 7)
        self.assertEqual(plain.line_sum(4, (2, 0), 1, 2), 2 * (7 + 15))
        self.assertEqual(plain.line_sum(1, (5, -3), 0, 0), 1)

    def test_main_sums_against_walked_squares(self):
        for given in SQUARES:
            for n in walked.SIZES:
                told = made(given).main_sums(n)
                self.assertEqual(told, walked.mains(walked.numbers(given, n), n), (given, n))
                self.assertIs(type(told), tuple)

    def test_even_sum(self):
        self.assertEqual([even_sum(n) for n in range(1, 8)], [1, 5, 15, 34, 65, 111, 175])
        self.assertEqual([even_sum(n) for n in walked.SIZES], [walked.even(n) for n in walked.SIZES])
        self.assertEqual(even_sum(n=GREAT), (10 ** 90 + 10 ** 30) // 2)
        self.assertEqual(even_sum(GREAT + 1) * 2, (GREAT + 1) * ((GREAT + 1) ** 2 + 1))

    def test_great_sizes(self):
        odd = made(((1, 2, 1), (2, -1, 0)))
        n = 3 * (GREAT // 10) + 1
        self.assertEqual(odd.line_sum(n, (1, 1), 5, n - 1), even_sum(n))
        self.assertEqual(odd.main_sums(n), (even_sum(n), even_sum(n)))
        self.assertEqual(odd.line_sum(GREAT, (0, 0), 0, 0), GREAT * (GREAT + 1))
        # The signs of high are those from 1 on that are odd, each twice; low has each sign once.
        signs = GREAT * GREAT // 2
        self.assertEqual(odd.line_sum(GREAT, (0, 1), 0, 0), GREAT * signs + (GREAT - 1) * GREAT // 2 + GREAT)
        self.assertEqual(odd.line_sum(GREAT, (0, 1), 0, 0), odd.line_sum(GREAT, (0, 1), 2, 77))
        self.assertNotEqual(odd.line_sum(GREAT, (0, 1), 0, 0), odd.line_sum(GREAT, (0, 1), 1, 77))
        self.assertEqual(unlike_line(odd, GREAT, (0, 1)), (1, 0))
        self.assertEqual(unlike_line(odd, GREAT - 1, (1, 1)), (0, 1))
        self.assertIsNone(unlike_line(odd, GREAT, (1, 1)))
        self.assertEqual(unlike_line(made(((1, 0, 0), (0, 1, 0))), GREAT, (0, 1)), (1, 0))
        self.assertIsNone(unlike_line(made(((0, 0, 3), (0, 0, 8))), GREAT, (0, 1)))

    def test_numbers_with_many_digits(self):
        given = ((FAR, -FAR - 5, FAR + 1), (3 - FAR, FAR, -FAR))
        square = made(given)
        for n in (1, 2, 6, 7, 10):
            entries = walked.numbers(given, n)
            self.assertEqual([number for row in square.square(n) for number in row], entries)
            self.assertEqual([square.number_at(n, *cell) for cell in walked.cells(n)], entries)
            self.assertEqual(square.main_sums(n), walked.mains(entries, n))
            for step in walked.STEPS:
                found = [square.line_sum(n, step, *cell) for cell in walked.cells(n)]
                self.assertEqual(found, walked.sums(entries, walked.lines(n, step)))


class Cells(unittest.TestCase):
    def test_square_and_number_at(self):
        for given in SQUARES:
            for n in range(1, 10):
                entries = walked.numbers(given, n)
                rows = [entries[at:at + n] for at in range(0, n * n, n)]
                self.assertEqual(made(given).square(n), rows)
                found = [made(given).number_at(n, row, column) for row, column in walked.cells(n)]
                self.assertEqual(found, entries)

    def test_greatest_square(self):
        rows = made(((1, 0, 0), (0, 1, 0))).square(n=40)
        self.assertEqual(rows, [list(range(40 * row + 1, 40 * row + 41)) for row in range(40)])

    def test_great_sizes(self):
        plain = made(((1, 0, 0), (0, 1, 0)))
        self.assertEqual(plain.number_at(n=GREAT, row=GREAT - 1, column=GREAT - 1), GREAT * GREAT)
        self.assertEqual(plain.number_at(GREAT, 2, 3), 2 * GREAT + 4)

    def test_properties(self):
        high, low = Rule(1, 2, 3), Rule(FAR, 5, 6)
        square = Numbers(high=high, low=low)
        self.assertEqual((square.high, square.low), (high, low))
        self.assertNotEqual(square.high, low)

    def test_equality(self):
        one, other = Rule(1, 2, 3), Rule(4, 5, 6)
        self.assertTrue(Numbers(one, other) == Numbers(Rule(1, 2, 3), Rule(4, 5, 6)))
        self.assertFalse(Numbers(one, other) != Numbers(Rule(1, 2, 3), Rule(4, 5, 6)))
        for unlike in (Numbers(other, one), Numbers(one, one), Numbers(other, other), Numbers(one, Rule(4, 5, 7))):
            self.assertFalse(Numbers(one, other) == unlike)
            self.assertTrue(Numbers(one, other) != unlike)

    def test_equal_to_nothing_else(self):
        class Anything:
            high, low = Rule(1, 2, 3), Rule(4, 5, 6)

            def __eq__(self, other):
                return True

        square = Numbers(Rule(1, 2, 3), Rule(4, 5, 6))
        for unlike in (None, 0, (Rule(1, 2, 3), Rule(4, 5, 6)), Rule(1, 2, 3), [], "", Anything()):
            self.assertFalse(square == unlike)
            self.assertTrue(square != unlike)


class WrongInputs(Wrong):
    def test_sizes(self):
        square = made(((1, 2, 1), (2, -1, 0)))
        for n in (0, -1, -GREAT):
            self.check(InvalidSize, n, square.number_at, n, 0, 0)
            self.check(InvalidSize, n, square.square, n)
            self.check(InvalidSize, n, square.line_sum, n, (0, 1), 0, 0)
            self.check(InvalidSize, n, square.main_sums, n)
            self.check(InvalidSize, n, even_sum, n)
            self.check(InvalidSize, n, unlike_line, square, n, (0, 0))

    def test_cells(self):
        square = made(((1, 2, 1), (2, -1, 0)))
        for cell in [(-1, 0), (0, -1), (3, 0), (0, 3), (3, -1), (-GREAT, 1), (1, GREAT)]:
            self.check(InvalidCell, cell, square.number_at, 3, *cell)
            self.check(InvalidCell, cell, square.line_sum, 3, (1, 1), *cell)
        self.check(InvalidCell, (1, 0), square.line_sum, 1, (0, 0), 1, 0)

    def test_the_size_comes_before_the_cell(self):
        square = made(((1, 2, 1), (2, -1, 0)))
        self.check(InvalidSize, 0, square.number_at, 0, -1, 5)
        self.check(InvalidSize, -2, square.line_sum, -2, (1, 1), 0, -9)

    def test_greater_sizes_are_no_error(self):
        n = 10 ** 40 + 9
        self.assertEqual(even_sum(n), n * (n * n + 1) // 2)
        self.assertEqual(len(made(((1, 2, 1), (2, -1, 0))).square(41)), 41)


class Values(unittest.TestCase):
    def test_returned_lists_are_new(self):
        square = made(((0, 0, 1), (0, 0, 1)))
        first, second = square.square(3), square.square(3)
        lists = [first, second] + first + second
        self.assertEqual(len({id(rows) for rows in lists}), 8)
        first[0][0] = 99
        first.pop()
        self.assertEqual(square.square(3), second)
        sizes = even_sizes(square, (1, 1))
        sizes.extra.append(5)
        self.assertEqual(even_sizes(square, (1, 1)), Calendar(1, [], [1, 3]))

    def test_answers_stay_after_other_questions(self):
        square = made(((3, 6, 1), (2, -1, 4)))

        def answers():
            return [
                square.high, square.low, square.number_at(9, 3, 4), square.square(4), square.line_sum(9, (1, 1), 2, 3),
                square.main_sums(8), once_sizes(square), alike_sizes(square, (1, 1)), unlike_line(square, 9, (1, 1)),
                even_sizes(square, (0, 1)), main_sizes(square), magic_sizes(square), whole_sizes(square),
            ]

        before = answers()
        for call in (lambda: square.square(0), lambda: square.line_sum(3, (1, 1), 3, 0), lambda: square.main_sums(-1)):
            with self.assertRaises(SquareError):
                call()
        (square == made(SQUARES[0]), square.line_sum(5, (2, 2), 1, 1), unlike_line(square, 5, (0, 0)))
        self.assertEqual(answers(), before)
        self.assertEqual((square.high, square.low), (Rule(3, 6, 1), Rule(2, -1, 4)))

    def test_by_name(self):
        square = made(((1, 2, 1), (2, -1, 0)))
        self.assertEqual(square.line_sum(n=3, step=(0, 1), row=1, column=2), 15)
        self.assertEqual(square.main_sums(n=3), (15, 15))
        self.assertEqual(once_sizes(square=square), Calendar(5, [1], []))
        self.assertEqual(alike_sizes(square=square, step=(1, 1)), Calendar(3, [1], []))
        self.assertEqual(unlike_line(square=square, n=3, step=(1, 1)), (0, 1))
        self.assertEqual(even_sizes(square=square, step=(0, 1)), Calendar(2, [1], []))
        self.assertEqual(main_sizes(square=square), Calendar(1, [1], []))
        self.assertEqual(magic_sizes(square=square), Calendar(10, [1], []))
        self.assertEqual(whole_sizes(square=square), Calendar(30, [1], []))

    def test_interface(self):
        for name in ["high", "low", "number_at", "square", "line_sum", "main_sums", "__eq__"]:
            self.assertIn(name, vars(Numbers))
        for name in ["high", "low"]:
            self.assertIsInstance(vars(Numbers)[name], property)
        wanted = {
            "even_sum": "n", "once_sizes": "square", "alike_sizes": "square step", "unlike_line": "square n step",
            "even_sizes": "square step", "main_sizes": "square", "magic_sizes": "square", "whole_sizes": "square",
        }
        for name, given in wanted.items():
            function = getattr(numbers, name)
            self.assertEqual(function.__module__, "rulesquares.numbers")
            self.assertEqual(list(inspect.signature(function).parameters), given.split())
