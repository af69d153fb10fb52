import inspect
import itertools
import unittest
from math import gcd

import walked
from rulesquares import lines
from rulesquares.calendars import Calendar
from rulesquares.errors import InvalidSize, SquareError
from rulesquares.lines import (
    clear_sizes, is_clear, is_paired, pair_sizes, quarrel, same_sizes, same_turned, twins)
from rulesquares.rules import Rule

GREAT = 10 ** 30
RULES = [
    (0, 0, 0), (0, 0, 7), (1, 0, 0), (0, 1, -3), (1, 1, 0), (2, 1, 0), (1, 2, 5), (-1, 3, 2), (4, 2, 1),
    (6, -9, 99), (-20, 15, -99), (20, 20, 4), (12, 0, 6), (0, -18, 0), (7, 5, 11), (-13, 19, 1), (3, 3, 0),
    (8, 1, 6), (10, -6, 20),
]
PAIRS = list(itertools.product(RULES, repeat=2))
EVERY = Calendar(1, [1], [])
ONE = Calendar(1, [], [1])


class Clear(unittest.TestCase):
    def test_against_walked_lines(self):
        found = {}
        for n in walked.SIZES:
            for step in walked.STEPS:
                places = walked.lines(n, step)
                for given in RULES:
                    clear = walked.clear(walked.signs(given, n), places)
                    answer = is_clear(Rule(*given), n, step)
                    self.assertIs(answer, clear, (given, n, step))
                    found[given, step, n] = clear
        self.check_calendars(found)

    def check_calendars(self, found):
        """Hold the calendars of all lists of two steps, and some longer ones, against what was walked."""
        chosen = [[], walked.STEPS[:4], walked.STEPS[:6], walked.STEPS[4:], [(1, 1)] * 6]
        chosen += [[step] for step in walked.STEPS]
        chosen += [list(steps) for steps in itertools.combinations(walked.STEPS, 2)]
        for given in RULES:
            for steps in chosen:
                sizes = clear_sizes(Rule(*given), steps)
                expected = [n for n in walked.SIZES if all(found[given, step, n] for step in steps)]
                self.assertEqual(walked.told(sizes), expected, (given, steps))

    def test_sizes_with_greater_primes(self):
        for given, step, prime in [((7, 3, 0), (4, 3), 37), ((20, 17, 1), (3, 1), 77), ((20, 1, 0), (5, -1), 99)]:
            sizes = clear_sizes(Rule(*given), [step])
            self.assertEqual(Rule(*given).slope(step), prime)
            for n in (prime - 1, prime, prime + 1):
                clear = walked.clear(walked.signs(given, n), walked.lines(n, step))
                self.assertIs(is_clear(Rule(*given), n, step), clear)
                self.assertIs(n in sizes, clear)

    def test_calendars_are_told_with_the_least_number(self):
        for given in RULES:
            for steps in [[], [(0, 1)], [(0, 1), (1, 0)], walked.STEPS[:4], [(1, 1), (2, -1)]]:
                self.assertTrue(walked.is_told_least(clear_sizes(Rule(*given), steps)), (given, steps))
        sizes = clear_sizes(Rule(12, 18, 0), [(0, 1), (1, 0)])
        self.assertEqual((sizes.number, sizes.divisors, sizes.extra), (6, [1], []))

    def test_a_slope_of_zero_leaves_size_one(self):
        for given, step in [((0, 0, 0), (1, 1)), ((2, 1, 0), (0, 0)), ((1, 1, 5), (-1, 1)), ((2, -4, 1), (2, 1))]:
            rule = Rule(*given)
            self.assertEqual(clear_sizes(rule, [(0, 1), step, step]), ONE)
            self.assertEqual([is_clear(rule, n, step) for n in (1, 2, 3, GREAT)], [True, False, False, False])

    def test_no_steps_leave_all_sizes(self):
        for given in RULES:
            self.assertEqual(clear_sizes(Rule(*given), []), EVERY)

    def test_great_sizes(self):
        queens = Rule(2, 1, 0)
        self.assertIs(is_clear(queens, GREAT, (1, 1)), True)
        self.assertIs(is_clear(queens, GREAT - 1, (1, 1)), False)
        self.assertIs(is_clear(queens, GREAT, (1, 0)), False)
        self.assertIs(is_clear(queens, GREAT + 1, (1, 0)), True)
        sizes = clear_sizes(queens, [(1, 0), (1, 1)])
        self.assertEqual([n in sizes for n in (GREAT - 1, GREAT, GREAT + 1, GREAT + 2)], [False, False, True, False])

    def test_all_steps_against_common_divisors(self):
        rules = [Rule(a, b, a - b) for a in range(-20, 21, 8) for b in range(-20, 21, 5)]
        for step in itertools.product(range(-5, 6), repeat=2):
            for rule in rules:
                slope = rule.a * step[0] + rule.b * step[1]
                sizes = clear_sizes(rule, [step])
                for n in (1, 2, 9, 15, 35, 49, 121, 197, 199, GREAT, GREAT + 1):
                    self.assertIs(is_clear(rule, n, step), gcd(slope, n) == 1)
                    self.assertIs(n in sizes, gcd(slope, n) == 1)
                    self.assertIs(quarrel(rule, n, step) is None, gcd(slope, n) == 1)

    def test_many_primes(self):
        steps = [(-5, 2), (-5, -5), (-4, -3), (-5, -3), (-5, 1), (-5, 3)]
        sizes = clear_sizes(Rule(-20, 1, 0), steps)
        self.assertEqual((sizes.divisors, sizes.extra), ([1], []))
        for n in range(1, 300):
            self.assertIs(n in sizes, all(is_clear(Rule(-20, 1, 0), n, step) for step in steps))

    def test_by_name(self):
        rule = Rule(2, 1, 0)
        self.assertIs(is_clear(rule=rule, n=9, step=(1, 1)), False)
        self.assertEqual(clear_sizes(rule=rule, steps=[(1, 1)]), Calendar(3, [1], []))


class Quarrels(unittest.TestCase):
    def test_against_walked_lines(self):
        for n in walked.SIZES:
            for step in walked.STEPS + [(5, 5), (-4, 2), (1, 0), (0, 5)]:
                places = walked.line(n, step, (0, 0))
                for given in RULES:
                    clear = walked.clear(walked.signs(given, n), [[row * n + c for row, c in places]])
                    begin = walked.sign(given, n, 0, 0)
                    same = [cell for cell in places[1:] if walked.sign(given, n, *cell) == begin]
                    expected = None if clear else same[0]
                    self.assertEqual(quarrel(Rule(*given), n, step), expected, (given, n, step))

    def test_the_line_may_come_back_to_its_first_cell(self):
        self.assertEqual(quarrel(Rule(2, 1, 0), 4, (2, 0)), (2, 0))
        self.assertEqual(quarrel(Rule(1, 1, 0), 4, (2, 0)), (0, 0))
        self.assertEqual(quarrel(Rule(1, 1, 0), 7, (0, 0)), (0, 0))
        self.assertIsNone(quarrel(Rule(1, 1, 0), 1, (0, 0)))

    def test_great_sizes(self):
        rule = Rule(2, 1, 5)
        self.assertEqual(quarrel(rule, GREAT, (1, 0)), (GREAT // 2, 0))
        self.assertEqual(quarrel(rule, GREAT - 1, (1, 1)), (GREAT // 3, GREAT // 3))
        self.assertEqual(quarrel(rule, GREAT, (-2, 4)), (GREAT - 2, 4))
        self.assertEqual(quarrel(rule, GREAT, (-3, 2)), (GREAT - 3 * GREAT // 4, GREAT // 2))
        self.assertIsNone(quarrel(rule, GREAT, (0, 1)))

    def test_by_name(self):
        self.assertEqual(quarrel(rule=Rule(2, 1, 0), n=9, step=(1, 1)), (3, 3))


class Pairs(unittest.TestCase):
    def test_against_walked_squares(self):
        found = {}
        for n in walked.SIZES:
            for one, other in PAIRS:
                found[one, other, n] = walked.paired(one, other, n)
                answer = is_paired(Rule(*one), Rule(*other), n)
                self.assertIs(answer, found[one, other, n], (one, other, n))
        for one, other in PAIRS:
            sizes = pair_sizes(Rule(*one), Rule(*other))
            self.assertEqual(
                walked.told(sizes), [n for n in walked.SIZES if found[one, other, n]], (one, other))

    def test_a_cross_number_of_zero_leaves_size_one(self):
        for one, other in [((2, 1, 0), (2, 1, 0)), ((2, 1, 0), (-4, -2, 9)), ((0, 0, 1), (3, 5, 0))]:
            self.assertEqual(pair_sizes(Rule(*one), Rule(*other)), ONE)
            self.assertEqual(
                [is_paired(Rule(*one), Rule(*other), n) for n in (1, 2, 7, GREAT)], [True, False, False, False])

    def test_calendars_are_told_with_the_least_number(self):
        for one, other in PAIRS:
            self.assertTrue(walked.is_told_least(pair_sizes(Rule(*one), Rule(*other))), (one, other))
        self.assertEqual(pair_sizes(Rule(20, 20, 0), Rule(-20, 20, 0)).number, 10)
        self.assertEqual(pair_sizes(Rule(20, 19, 0), Rule(-19, 20, 0)).number, 761)
        self.assertEqual(pair_sizes(Rule(1, 0, 0), Rule(5, -1, 0)), EVERY)

    def test_all_rules_against_common_divisors(self):
        numbers = (-20, -19, -7, 0, 1, 12, 18, 20)
        for a, b, c, d in itertools.product(numbers, repeat=4):
            one, other, cross = Rule(a, b, 99), Rule(c, d, -99), a * d - b * c
            sizes = pair_sizes(one, other)
            for n in (1, 2, 9, 25, 77, 401, 761, GREAT - 1, GREAT):
                self.assertIs(is_paired(one, other, n), gcd(cross, n) == 1)
                self.assertIs(n in sizes, gcd(cross, n) == 1)
                self.assertIs(twins(one, other, n) is None, gcd(cross, n) == 1)

    def test_great_sizes(self):
        one, other = Rule(2, 1, 0), Rule(1, 2, 0)
        self.assertIs(is_paired(one, other, GREAT), True)
        self.assertIs(is_paired(one, other, GREAT - 1), False)
        self.assertIn(GREAT, pair_sizes(one, other))
        self.assertNotIn(GREAT - 1, pair_sizes(one, other))

    def test_by_name(self):
        one, other = Rule(2, 1, 0), Rule(1, 2, 0)
        self.assertIs(is_paired(one=one, other=other, n=10), True)
        self.assertEqual(pair_sizes(one=one, other=other), Calendar(3, [1], []))
        self.assertEqual(twins(one=one, other=other, n=9), ((0, 0), (3, 3)))


class Twins(unittest.TestCase):
    def walk(self, one, other, n):
        if walked.paired(one, other, n):
            return None
        pairs = list(zip(walked.signs(one, n), walked.signs(other, n)))
        at = pairs.index(pairs[0], 1)
        return (0, 0), (at // n, at % n)

    def test_against_walked_squares(self):
        for n in walked.SIZES:
            for one, other in PAIRS:
                self.assertEqual(
                    twins(Rule(*one), Rule(*other), n), self.walk(one, other, n), (one, other, n))

    def test_more_rules_at_sizes_with_many_divisors(self):
        numbers = [-20, -9, -4, 0, 1, 6, 8, 15]
        for a, b, c, d in itertools.product(numbers, repeat=4):
            for n in (8, 12):
                one, other = (a, b, 3), (c, d, -1)
                self.assertEqual(
                    twins(Rule(*one), Rule(*other), n), self.walk(one, other, n), (one, other, n))

    def test_great_sizes(self):
        third, far = (GREAT - 1) // 3, GREAT // 10
        self.assertEqual(twins(Rule(2, 1, 0), Rule(1, 2, 0), GREAT - 1), ((0, 0), (third, third)))
        self.assertIsNone(twins(Rule(2, 1, 0), Rule(1, 2, 0), GREAT))
        self.assertEqual(twins(Rule(3, 10, 1), Rule(7, -20, 2), GREAT), ((0, 0), (0, far)))
        self.assertEqual(twins(Rule(1, 1, 0), Rule(1, 1, 7), GREAT), ((0, 0), (1, GREAT - 1)))
        self.assertEqual(twins(Rule(0, 0, 0), Rule(0, 0, 7), GREAT), ((0, 0), (0, 1)))
        self.assertEqual(twins(Rule(20, 3, 0), Rule(10, 1, 0), GREAT), ((0, 0), (far, 0)))

    def test_great_sizes_have_the_least_cell(self):
        for n in (GREAT, GREAT - 1, 6 ** 38, 7 * 10 ** 29):
            for one, other in PAIRS:
                told = twins(Rule(*one), Rule(*other), n)
                self.assertIs(told is None, is_paired(Rule(*one), Rule(*other), n))
                if told is not None:
                    self.check_least(Rule(*one), Rule(*other), n, told[1])

    def check_least(self, one, other, n, cell):
        """Twins of a divisor of n, so many times further apart, are twins for n: none comes earlier."""
        row, column = cell
        self.assertNotEqual(cell, (0, 0))
        self.assertEqual(one.sign(n, row, column), one.sign(n, 0, 0))
        self.assertEqual(other.sign(n, row, column), other.sign(n, 0, 0))
        small = next(m for m in range(2, 10 ** 4) if n % m == 0 and not is_paired(one, other, m))
        self.assertLessEqual(cell, tuple(n // small * entry for entry in twins(one, other, small)[1]))


class Same(unittest.TestCase):
    def test_sizes_against_squares(self):
        rules = RULES + [(8, 1, 6), (14, 7, 12), (2, 1, 97), (-4, 1, 0), (2, -11, 0), (-20, -20, -99)]
        squares = {(rule, n): walked.signs(rule, n) for rule in rules for n in range(1, 41)}
        for one, other in itertools.product(rules, repeat=2):
            expected = [n for n in range(1, 41) if squares[one, n] == squares[other, n]]
            sizes = same_sizes(Rule(*one), Rule(*other))
            self.assertEqual(walked.told(sizes, range(1, 41)), expected, (one, other))
            self.assertTrue(walked.is_told_least(sizes))

    def test_far_sizes(self):
        self.assertEqual(same_sizes(Rule(1, 1, 99), Rule(1, 1, -99)).extra[-3:], [66, 99, 198])
        self.assertEqual(same_sizes(Rule(20, 1, 0), Rule(-20, 1, 0)).extra, [1, 2, 4, 5, 8, 10, 20, 40])
        self.assertEqual(same_sizes(Rule(20, 1, 0), Rule(-20, 0, 0)), ONE)
        self.assertEqual(same_sizes(one=Rule(3, -4, 5), other=Rule(3, -4, 5)), EVERY)

    def test_turned_against_squares(self):
        for one, other in PAIRS:
            turned = same_turned(Rule(*one), Rule(*other))
            self.assertIs(type(turned), list)
            self.assertEqual([way for way, _ in turned], [way for way, _ in walked.TURNS])
            for (way, sizes), (_, cell) in zip(turned, walked.TURNS):
                expected = [n for n in walked.SIZES if self.is_turned(one, other, n, cell)]
                self.assertEqual(walked.told(sizes), expected, (one, other, way))

    def is_turned(self, one, other, n, cell):
        return all(
            walked.sign(one, n, r, c) == walked.sign(other, n, *cell(n, r, c)) for r, c in walked.cells(n))

    def test_turned_far_sizes(self):
        turned = dict(same_turned(one=Rule(20, 20, -99), other=Rule(-20, -20, 99)))
        self.assertEqual(turned["half"].extra, [n for n in range(1, 239) if 238 % n == 0])
        self.assertEqual([way for way in turned if turned[way] == EVERY], [])
        self.assertEqual(dict(same_turned(Rule(1, 2, 0), Rule(2, 1, 0)))["cross"], EVERY)


class WrongSizes(unittest.TestCase):
    def check(self, n, call, *given):
        with self.assertRaises(SquareError) as caught:
            call(*given)
        self.assertIs(type(caught.exception), InvalidSize)
        self.assertEqual(caught.exception.value, n)

    def test_sizes_below_one(self):
        one, other = Rule(2, 1, 0), Rule(4, 2, 0)
        for n in (0, -1, -GREAT):
            self.check(n, is_clear, one, n, (1, 1))
            self.check(n, is_clear, one, n, (0, 0))
            self.check(n, quarrel, one, n, (0, 1))
            self.check(n, quarrel, one, n, (0, 0))
            self.check(n, is_paired, one, other, n)
            self.check(n, twins, one, other, n)
            self.check(n, twins, one, one, n)

    def test_greater_sizes_are_no_error(self):
        n = 10 ** 40
        self.assertIs(is_clear(Rule(3, 1, 0), n, (1, 0)), True)
        self.assertEqual(twins(Rule(2, 1, 0), Rule(4, 2, 0), n), ((0, 0), (1, n - 2)))


class Values(unittest.TestCase):
    def test_steps_are_neither_changed_nor_kept(self):
        steps = [(1, 1), (0, 1), (1, 1)]
        rule = Rule(2, 1, 0)
        sizes = clear_sizes(rule, steps)
        self.assertEqual(steps, [(1, 1), (0, 1), (1, 1)])
        steps.append((0, 0))
        self.assertEqual(sizes, Calendar(3, [1], []))
        steps.clear()
        self.assertEqual((sizes.number, sizes.divisors, sizes.extra), (3, [1], []))

    def test_returned_lists_are_new(self):
        one, other = Rule(1, 1, 0), Rule(2, 1, 0)
        first, second = same_turned(one, other), same_turned(one, other)
        self.assertIsNot(first, second)
        lists = [told for _, sizes in first + second for told in (sizes.divisors, sizes.extra)]
        self.assertEqual(len({id(told) for told in lists}), len(lists))
        first.clear()
        for told in lists:
            told.append(0)
        self.assertEqual(same_turned(one, other), second)
        self.assertEqual([way for way, _ in second], [way for way, _ in walked.TURNS])
        clear_sizes(one, [(0, 0)]).extra.append(5)
        self.assertEqual(clear_sizes(one, [(0, 0)]), ONE)

    def test_answers_stay_after_other_questions(self):
        one, other = Rule(6, -9, 4), Rule(2, 5, 0)
        steps = [(0, 1), (1, 1)]

        def answers():
            return [
                (one.a, one.b, one.d), (other.a, other.b, other.d), is_clear(one, 9, (1, 1)), clear_sizes(one, steps),
                is_paired(one, other, 12), pair_sizes(one, other), same_sizes(one, other), same_turned(one, other),
                quarrel(one, 12, (1, 1)), twins(one, other, 12),
            ]

        before = answers()
        for call in (lambda: twins(one, other, 0), lambda: quarrel(one, -1, (1, 1)), lambda: is_clear(one, 0, (1, 1))):
            with self.assertRaises(InvalidSize):
                call()
        (same_turned(other, one), twins(other, one, 9), clear_sizes(other, steps), pair_sizes(one, one))
        self.assertEqual(answers(), before)

    def test_kinds_of_values(self):
        one, other = Rule(2, 1, 0), Rule(1, 2, 0)
        self.assertIs(type(quarrel(one, 9, (1, 1))), tuple)
        told = twins(one, other, 9)
        self.assertEqual([type(told)] + [type(cell) for cell in told], [tuple] * 3)
        self.assertEqual({type(entry) for entry in same_turned(one, other)}, {tuple})

    def test_interface(self):
        wanted = {
            "is_clear": "rule n step", "clear_sizes": "rule steps", "is_paired": "one other n",
            "pair_sizes": "one other", "same_sizes": "one other", "same_turned": "one other",
            "quarrel": "rule n step", "twins": "one other n",
        }
        for name, given in wanted.items():
            function = getattr(lines, name)
            self.assertEqual(function.__module__, "rulesquares.lines")
            self.assertEqual(list(inspect.signature(function).parameters), given.split())
