import itertools
import random
import unittest
from math import gcd

import walked
from rulesquares.errors import InvalidCell, InvalidNumber, InvalidSize, SquareError
from rulesquares.fits import asked, everywhere, fitting, forced
from wrong import Wrong

GREAT = 10 ** 30
FAR = 10 ** 61
GREAT_PRIME = 2 ** 89 - 1
PRIMES = [p for p in range(2, 74) if all(p % q for q in range(2, p))]
PRODUCT = 1
for factor in PRIMES:
    PRODUCT *= factor
SIZES = [GREAT, PRODUCT, GREAT_PRIME, 6 ** 38, 2 ** 99, 10 ** 15 * (10 ** 15 - 1), 3 ** 62, (2 ** 31 - 1) ** 3]


def all_tuples(n):
    return list(itertools.product(range(n), repeat=3))


def all_fitting(n, cells):
    """The tuples (a, b, d) with all seen cells, found by trying, in ascending order."""
    return [
        told for told in all_tuples(n)
        if all(walked.sign(told, n, row, column) == sign for row, column, sign in cells)
    ]


def seen_lists(n, many, picks):
    """Lists of seen cells: some that a rule has, some with other signs, some with the same cells again."""
    lists = [[]]
    for _ in range(many):
        rule = [picks.randrange(n) for _ in range(3)]
        jump = picks.choice([p for p in range(1, n + 1) if n % p == 0])
        cells = [
            (picks.randrange(n) // jump * jump, picks.randrange(n) // jump * jump)
            for _ in range(picks.choice([1, 1, 2, 2, 2, 3, 3, 4, 12]))
        ]
        told = [(*cell, walked.sign(rule, n, *cell)) for cell in cells]
        if picks.random() < 0.15:
            told.append((*cells[0], picks.randrange(n)))
        lists.append(told)
    return lists


class SmallSizes(unittest.TestCase):
    def check(self, n, cells):
        found = all_fitting(n, cells)
        self.assertEqual(fitting(n, cells), (len(found), found[0] if found else None), (n, cells))
        counts = []
        for cell in walked.cells(n):
            signs = sorted({walked.sign(told, n, *cell) for told in found})
            counts.append(len(signs))
            self.check_forced(n, forced(n, cells, *cell), signs)
        most = max(counts)
        expected = divmod(counts.index(most), n) if most > 1 else None
        self.assertEqual(asked(n, cells), expected, (n, cells))
        return most

    def check_forced(self, n, told, signs):
        if not signs:
            self.assertIsNone(told)
            return
        least, apart = told
        self.assertEqual((least, list(range(least, n, apart))), (signs[0], signs))
        if len(signs) == 1:
            self.assertEqual(apart, n)

    def test_against_all_tuples(self):
        picks = random.Random(1)
        told = [min(self.check(n, cells), 2) for n in range(1, 8) for cells in seen_lists(n, 40, picks)]
        self.assertGreater(min(told.count(most) for most in (0, 1, 2)), 10)

    def test_sizes_with_many_divisors_against_all_tuples(self):
        picks = random.Random(2)
        for n, many in [(8, 25), (9, 15), (10, 10), (12, 12), (16, 4)]:
            for cells in seen_lists(n, many, picks)[1:]:
                self.check(n, cells)

    def test_all_lists_of_two_cells(self):
        for n in (2, 3):
            cells = list(itertools.product(range(n), repeat=3))
            for two in itertools.product(cells, repeat=2):
                self.check(n, list(two))

    def test_cells_that_leave_divisors(self):
        for n in (4, 6, 8, 12):
            for jump in [p for p in range(1, n) if n % p == 0]:
                self.check(n, [(0, 0, 1), (0, jump, 1 + jump)])
                self.check(n, [(jump, 0, 1), (0, jump, 1)])
                self.check(n, [(1, 1, 0), (1 + jump, 1, 0), (1, 1 + jump, 0)])

    def test_no_seen_cells(self):
        for n in (1, 2, 5, 12, GREAT):
            self.assertEqual(fitting(n, []), (n ** 3, (0, 0, 0)))
            self.assertEqual(forced(n, [], n - 1, n // 2), (0, 1))
            self.assertEqual(asked(n, []), (0, 0) if n > 1 else None)

    def test_cells_that_no_rule_has(self):
        for n, cells in [(6, [(0, 0, 1), (0, 0, 2)]), (6, [(0, 0, 1), (2, 2, 2)]), (GREAT, [(0, 0, 1), (0, 2, 2)])]:
            self.assertEqual((fitting(n, cells), forced(n, cells, 1, 1), asked(n, cells)), ((0, None), None, None))

    def test_cells_that_leave_one_sign_everywhere(self):
        cells = [(0, 0, 1), (0, 1, 2), (1, 0, 4)]
        for n in (6, 7, GREAT):
            self.assertEqual((fitting(n, cells), asked(n, cells)), ((1, (3, 1, 1)), None))
            self.assertEqual(forced(n, cells, 5, 5), (21 % n, n))

    def test_size_one(self):
        for cells in ([], [(0, 0, 0)], [(0, 0, 0)] * 12):
            self.assertEqual(
                (fitting(1, cells), forced(1, cells, 0, 0), asked(1, cells)), ((1, (0, 0, 0)), (0, 1), None))


class MiddleSizes(unittest.TestCase):
    def test_asked_against_forced_in_all_cells(self):
        picks = random.Random(3)
        for n, many in [(15, 12), (18, 12), (24, 10), (30, 30), (36, 8), (42, 8), (60, 3)]:
            for cells in seen_lists(n, many, picks):
                answers = [forced(n, cells, *cell) for cell in walked.cells(n)]
                if None in answers:
                    self.assertIsNone(asked(n, cells))
                    continue
                counts = [n // apart for _, apart in answers]
                expected = divmod(counts.index(max(counts)), n) if max(counts) > 1 else None
                self.assertEqual(asked(n, cells), expected, (n, cells))

    def first_of(self, n, parts):
        """The first tuple whose remainders by each of some sizes are among the tuples of this size."""
        first, left = (), parts
        for at in range(3):
            entries = [(m, {told[at] for told in kept}) for m, kept in left]
            entry = next(entry for entry in range(n) if all(entry % m in found for m, found in entries))
            left = [(m, [told for told in kept if told[at] == entry % m]) for m, kept in left]
            first += (entry,)
        return first

    def test_a_size_against_its_coprime_parts(self):
        picks = random.Random(4)
        for one, other in [(8, 9), (5, 7), (4, 5), (3, 8), (7, 9), (11, 12), (1, 10)]:
            n = one * other
            for cells in seen_lists(n, 25, picks):
                parts = [
                    (m, all_fitting(m, [(row % m, column % m, sign % m) for row, column, sign in cells]))
                    for m in (one, other)
                ]
                many = len(parts[0][1]) * len(parts[1][1])
                self.assertEqual(fitting(n, cells), (many, self.first_of(n, parts) if many else None))


class GreatSizes(unittest.TestCase):
    def lists(self, n, many, seed):
        picks = random.Random(seed)
        near = [0, 1, 2, 3, 4, 6, 12, n - 1, n // 2, n // 3 * 2, n - 6]
        for _ in range(many):
            rule = tuple(picks.randrange(n) for _ in range(3))
            cells = [(picks.choice(near), picks.choice(near)) for _ in range(picks.choice([1, 2, 2, 3, 12]))]
            yield rule, [(*cell, walked.sign(rule, n, *cell)) for cell in cells]

    def test_a_rule_that_is_there_is_found(self):
        for n in SIZES:
            for rule, cells in self.lists(n, 40, 5):
                many, first = fitting(n, cells)
                self.assertGreaterEqual(many, 1)
                self.assertLessEqual(first, rule)
                self.assertTrue(all(0 <= entry < n for entry in first))
                for row, column, sign in cells:
                    self.assertEqual(walked.sign(first, n, row, column), sign)
                    self.assertEqual(forced(n, cells, row, column), (sign, n))

    def test_one_more_cell_leaves_its_share(self):
        for n in SIZES:
            for rule, cells in self.lists(n, 15, 6):
                many, _ = fitting(n, cells)
                for cell in [(0, 0), (1, 5), (n // 2, 4), (n - 2, n - 3), (7, n // 3)]:
                    least, apart = forced(n, cells, *cell)
                    self.assertEqual((n % apart, walked.sign(rule, n, *cell) % apart), (0, least))
                    self.assertEqual(fitting(n, cells + [(*cell, least)])[0] * (n // apart), many)
                    self.assertEqual(fitting(n, cells + [(*cell, n - apart + least)])[0] * (n // apart), many)
                    if apart > 1:
                        self.assertEqual(fitting(n, cells + [(*cell, (least + 1) % n)]), (0, None))

    def test_asked_is_the_first_best_cell(self):
        for n in SIZES:
            for _, cells in self.lists(n, 15, 7):
                cell = asked(n, cells)
                _, least = forced(n, cells, *cell) if cell else (0, n)
                before = [(0, at) for at in range(15)] + [(1, at) for at in range(15)] + [(n - 1, n // 7), (n // 5, 3)]
                for other in before:
                    _, apart = forced(n, cells, *other)
                    self.assertEqual(apart % least, 0)
                    if cell and other < cell:
                        self.assertGreater(apart, least)

    def test_three_cells_at_a_prime(self):
        n = GREAT_PRIME
        for rule, _ in self.lists(n, 20, 8):
            cells = [(*cell, walked.sign(rule, n, *cell)) for cell in [(3, 5), (n - 7, 11), (10 ** 20, 10 ** 9)]]
            self.assertEqual(fitting(n, cells), (1, rule))
            self.assertEqual(fitting(n, cells[:2])[0], n)
            self.assertEqual(fitting(n, cells[:2])[1][0], 0)

    def test_known_cells(self):
        self.assertEqual(forced(GREAT, [(0, 0, 1), (0, 2, 3)], 0, 1), (2, GREAT // 2))
        self.assertEqual(fitting(GREAT, [(0, 0, 1), (0, 2, 3)]), (2 * GREAT, (0, 1, 1)))
        self.assertEqual(fitting(GREAT, [(0, 0, 5), (GREAT // 5, 0, 5)]), (GREAT ** 2 // 5, (0, 0, 5)))
        self.assertEqual(fitting(GREAT, [(0, 0, 0), (1, 1, GREAT - 1)]), (GREAT, (0, GREAT - 1, 0)))
        self.assertEqual(asked(GREAT, [(0, 0, 0), (0, 1, 7)]), (1, 0))
        self.assertEqual(asked(GREAT, [(0, 0, 0), (0, 2, 4)]), (1, 0))
        self.assertEqual(asked(GREAT, [(0, 0, 0), (0, 2, 4), (1, 0, 9)]), (0, 1))

    def gap(self):
        """A number to which each one from 0 to 155 has a distance that shares a prime with PRODUCT."""
        left, at = list(range(156)), 0
        for prime in PRIMES:
            counts = [sum(1 for entry in left if entry % prime == rest) for rest in range(prime)]
            rest = counts.index(max(counts))
            left = [entry for entry in left if entry % prime != rest]
            at += (rest - at) * pow(PRODUCT // prime, -1, prime) * (PRODUCT // prime)
        return at % PRODUCT

    def test_long_ways_to_the_first_cell(self):
        at = self.gap()
        way = next(k for k in itertools.count() if gcd(k - at, PRODUCT) == 1)
        self.assertGreaterEqual(way, 156)
        # One cell: what is asked has a distance to it without a common divisor. Two neighbours in a
        # row leave the row alone, two in a column the column.
        self.assertEqual(asked(PRODUCT, [(0, at, 4)]), (0, way))
        self.assertEqual(asked(PRODUCT, [(at, 3, 4), (at, 4, 9)]), (way, 0))
        self.assertEqual(asked(PRODUCT, [(3, at, 4), (4, at, 9)]), (0, way))
        self.assertEqual(asked(PRODUCT, [(1, at, 4)]), (0, 0))
        self.assertEqual(asked(PRODUCT, [(30, at, 4)]), (0, next(k for k in range(99) if gcd(k - at, 30) == 1)))


class Everywhere(unittest.TestCase):
    def check(self, seen, most):
        expected = [
            told for told in itertools.product(range(-most, most + 1), repeat=3)
            if all(walked.sign(told, n, row, column) == sign for n, row, column, sign in seen)
        ]
        self.assertEqual(everywhere(seen, most), expected)
        return len(expected)

    def test_against_all_tuples(self):
        picks = random.Random(9)
        counts = []
        for _ in range(150):
            most = picks.randrange(6)
            rule = [picks.randint(-most, most) for _ in range(3)]
            seen = []
            for _ in range(picks.choice([0, 1, 2, 3, 5, 12])):
                n = picks.choice([1, 2, 3, 4, 6, 7, 10, 25, GREAT])
                cell = (picks.randrange(n), picks.randrange(n))
                seen.append((n, *cell, walked.sign(rule, n, *cell)))
            if seen and picks.random() < 0.2:
                seen[-1] = seen[-1][:3] + (picks.randrange(seen[-1][0]),)
            counts.append(self.check(seen, most))
        self.assertIn(0, counts)
        self.assertGreater(len(set(counts)), 10)

    def test_edges(self):
        self.assertEqual(everywhere([], 0), [(0, 0, 0)])
        self.assertEqual(everywhere([(5, 0, 0, 1)], 0), [])
        self.assertEqual(everywhere([(5, 3, 4, 0)], 0), [(0, 0, 0)])
        self.assertEqual(len(everywhere([], 5)), 11 ** 3)
        self.assertEqual(everywhere([(GREAT, 1, 0, GREAT - 1), (GREAT, 0, 0, 0), (9, 0, 1, 8)], 3), [(-1, -1, 0)])
        self.assertEqual(len(everywhere([(1, 0, 0, 0)] * 12, 1)), 27)

    def test_by_name(self):
        self.assertEqual(everywhere(seen=[(7, 0, 0, 1), (7, 0, 1, 3), (7, 1, 0, 1)], most=2), [(0, 2, 1)])


class WrongInputs(Wrong):
    def each(self, kind, value, n, cells):
        """All functions raise the same for a size and seen cells, also ahead of the cell that is asked for."""
        self.check(kind, value, fitting, n, cells)
        self.check(kind, value, asked, n, cells)
        for cell in [(0, 0), (-1, n), (FAR, FAR)]:
            self.check(kind, value, forced, n, cells, *cell)

    def test_sizes(self):
        for n in (0, -1, -GREAT):
            for cells in ([], [(0, 0, 0)], [(-1, 0, 9)]):
                self.each(InvalidSize, n, n, cells)
            self.check(InvalidSize, n, everywhere, [(n, 0, 0, 0)], 1)

    def test_cells_and_signs(self):
        for cell in [(-1, 0), (0, -1), (6, 0), (0, 6), (FAR, 1), (1, -FAR), (6, -1)]:
            self.each(InvalidCell, cell, 6, [(1, 1, 1), (*cell, 3)])
            self.check(InvalidCell, cell, everywhere, [(7, 6, 6, 6), (6, *cell, 0)], 0)
        for sign in (-1, 6, 7, FAR, -FAR):
            self.each(InvalidNumber, sign, 6, [(1, 1, 1), (5, 5, sign)])
            self.check(InvalidNumber, sign, everywhere, [(7, 6, 6, 6), (6, 5, 5, sign)], 0)

    def test_asked_for_cells(self):
        for cell in [(-1, 0), (0, -1), (6, 0), (0, 6), (FAR, 1)]:
            for cells in ([], [(0, 0, 1)], [(0, 0, 1), (0, 0, 2)]):
                self.check(InvalidCell, cell, forced, 6, cells, *cell)

    def test_which_error_comes_first(self):
        self.each(InvalidCell, (6, 0), 6, [(6, 0, 9), (0, 0, -1)])
        self.each(InvalidNumber, 9, 6, [(0, 0, 9), (6, 0, -1)])
        self.each(InvalidCell, (0, 7), 6, [(0, 0, 0), (0, 7, 9), (0, 0, -1)])
        self.each(InvalidNumber, 6, 6, [(0, 0, 1), (0, 0, 2), (5, 5, 6)])
        self.check(InvalidSize, 0, everywhere, [(0, 9, 9, 9), (-1, 0, 0, 0)], 1)
        self.check(InvalidNumber, 3, everywhere, [(3, 2, 2, 3), (0, 9, 9, 9)], 1)
        self.check(InvalidCell, (2, 3), everywhere, [(3, 2, 2, 2), (3, 2, 3, 3), (0, 0, 0, 0)], 1)

    def test_greater_sizes_are_no_error(self):
        n = 10 ** 40
        self.assertEqual(fitting(n, [(0, 0, 7), (0, 1, 8), (1, 0, 9)]), (1, (2, 1, 7)))


class Values(unittest.TestCase):
    def test_given_lists_are_neither_changed_nor_kept(self):
        cells, seen = [(0, 0, 1), (2, 2, 3), (0, 0, 1)], [(5, 0, 0, 1), (7, 1, 1, 4)]

        def answers():
            return fitting(6, cells), forced(6, cells, 0, 2), asked(6, cells), everywhere(seen, 3)

        before = answers()
        self.assertEqual((cells, seen), ([(0, 0, 1), (2, 2, 3), (0, 0, 1)], [(5, 0, 0, 1), (7, 1, 1, 4)]))
        cells.append((0, 1, 2))
        seen.append((9, 8, 8, 8))
        self.assertEqual(sum(one == other for one, other in zip(answers(), before)), 0)
        (cells.pop(), seen.pop())
        for call in (lambda: fitting(6, [(6, 6, 6)]), lambda: everywhere([(0, 0, 0, 0)], 1), lambda: asked(0, [])):
            with self.assertRaises(SquareError):
                call()
        self.assertEqual(answers(), before)

    def test_returned_lists_are_new(self):
        first, second = everywhere([(5, 0, 0, 1)], 2), everywhere([(5, 0, 0, 1)], 2)
        self.assertIsNot(first, second)
        first.clear()
        self.assertEqual(everywhere([(5, 0, 0, 1)], 2), second)

    def test_kinds_of_values(self):
        cells = [(0, 0, 1), (1, 1, 4)]
        many, first = fitting(6, cells)
        told = [fitting(6, cells), first, forced(6, cells, 2, 2), asked(6, cells), everywhere([(5, 0, 0, 1)], 1)[0]]
        self.assertEqual({type(value) for value in told}, {tuple})
        self.assertIs(type(everywhere([], 1)), list)

    def test_by_name(self):
        cells = [(0, 0, 1), (1, 1, 4)]
        self.assertEqual(fitting(n=6, cells=cells), (6, (0, 3, 1)))
        self.assertEqual(forced(n=6, cells=cells, row=2, column=2), (1, 6))
        self.assertEqual(asked(n=6, cells=cells), (0, 1))
