import itertools
import random
import unittest
from math import gcd

from rulesquares.calendars import Calendar
from rulesquares.factors import divisor_list
from rulesquares.lines import clear_sizes, is_clear
from rulesquares.mends import best, holds, mends, refuted
from rulesquares.rules import Rule

REACH = 1000
NONE, EVERY = Calendar(1, [], []), Calendar(1, [1], [])
ODD, SIX = Calendar(2, [1], []), Calendar(6, [1], [])
LATIN = [(0, 1), (1, 0)]
QUEENS = [(0, 1), (1, 0), (1, 1), (-1, 1)]
LISTS = [
    [], [(1, 0)], LATIN, QUEENS, [(0, 0)], [(1, 1), (0, 0)], [(2, 3), (2, 3)], [(2, -4)], [(5, 5), (-5, 4)],
    [(1, 1), (-1, 4), (4, -1), (2, 2), (-3, 2), (5, 0)],
]
CALENDARS = [
    NONE, EVERY, ODD, SIX, ~ODD, Calendar(3, [3], []), Calendar(5, [1], [5, 15, 1]), Calendar(30, [1], []),
    Calendar(1, [], [1]), Calendar(1, [], [1, 5, 25]), Calendar(1, [], [9, 35, 49]), Calendar(1, [1], [1, 2, 3, 4]),
    Calendar(2, [1], [1, 3, 4]), Calendar(6, [2, 3], [7]), Calendar(12, [1, 4], [4, 8]), Calendar(10, [1, 5], [6]),
    Calendar(6, [1], list(range(2, 162, 2))), Calendar(210, [1], [11, 13]),
]
RULES = [Rule(1, 1, 0), Rule(3, 3, 4), Rule(0, 0, 0), Rule(-2, 9, 99), Rule(9, -9, 1), Rule(6, 4, 0), Rule(-7, -5, 3)]


def near(rule, most):
    """All tuples within the changes, each with the sum of its differences."""
    changes = itertools.product(range(-most, most + 1), repeat=2)
    told = [(abs(one) + abs(other), (rule.a + one, rule.b + other)) for one, other in changes]
    return [(change, pair) for change, pair in sorted(told) if change <= most]


def slopes(pair, steps):
    return [pair[0] * down + pair[1] * right for down, right in steps]


def clear_set(pair, steps):
    """The sizes within reach for which a rule is clear on all steps."""
    return {n for n in range(1, REACH) if all(gcd(slope, n) == 1 for slope in slopes(pair, steps))}


class Mends(unittest.TestCase):
    def expected(self, rule, steps, sizes, most):
        asked = [n for n in range(1, REACH) if n in sizes]
        found = [
            (change, pair) for change, pair in near(rule, most)
            if all(gcd(slope, n) == 1 for n in asked for slope in slopes(pair, steps))
        ]
        return sorted(pair for change, pair in found if change == found[0][0])

    def test_against_all_tuples(self):
        lengths = []
        for rule, steps, sizes in itertools.product(RULES, LISTS, CALENDARS):
            for most in (0, 2, 4):
                found = mends(rule, steps, sizes, most)
                lengths.append(len(found))
                self.assertEqual(
                    found, self.expected(rule, steps, sizes, most), (rule.a, rule.b, steps, sizes.number, most))
        self.assertGreater(len(set(lengths)), 5)

    def test_every_number_of_changes(self):
        for rule in RULES:
            for most in range(5):
                for steps, sizes in [(QUEENS, SIX), (LATIN, ODD), (LATIN, EVERY), (LISTS[9], Calendar(30, [1], [7]))]:
                    self.assertEqual(mends(rule, steps, sizes, most), self.expected(rule, steps, sizes, most))

    def test_no_sizes_and_size_one_ask_nothing(self):
        for rule, steps in itertools.product(RULES, LISTS):
            for sizes in (NONE, Calendar(1, [], [1])):
                self.assertEqual(mends(rule, steps, sizes, 4), [(rule.a, rule.b)])

    def test_all_sizes_ask_for_slopes_of_one(self):
        self.assertEqual(mends(Rule(3, 0, 0), [(0, 1)], EVERY, 4), [(3, -1), (3, 1)])
        self.assertEqual(mends(Rule(5, 6, 0), LATIN, EVERY, 4), [])
        self.assertEqual(mends(Rule(2, 4, 0), LATIN, EVERY, 4), [(1, 1)])
        self.assertEqual(mends(Rule(0, 0, 0), LATIN, EVERY, 4), [(-1, -1), (-1, 1), (1, -1), (1, 1)])

    def test_extra_sizes_alone(self):
        self.assertEqual(mends(Rule(5, 5, 0), LATIN, Calendar(1, [], [5]), 1), [])
        self.assertEqual(mends(Rule(5, 5, 0), LATIN, Calendar(1, [], [5]), 2), [(4, 4), (4, 6), (6, 4), (6, 6)])
        self.assertEqual(mends(Rule(5, 5, 0), LATIN, Calendar(1, [], [999983]), 0), [(5, 5)])
        self.assertEqual(mends(Rule(0, 5, 0), LATIN, Calendar(1, [], [999983]), 1), [(-1, 5), (1, 5)])
        self.assertEqual(mends(Rule(5, 2, 0), LATIN, Calendar(5, [1], []), 4), [(5, 1)])
        self.assertEqual(mends(Rule(3, 2, 0), LATIN, Calendar(5, [1], [5]), 4), [(1, 1)])
        self.assertEqual(mends(Rule(5, 2, 0), LATIN, Calendar(5, [1], [5]), 4), [])

    def test_extra_sizes_that_are_left_out(self):
        self.assertEqual(mends(Rule(2, 2, 0), LATIN, Calendar(2, [1], [3, 5, 7]), 0), [(2, 2)])
        self.assertEqual(mends(Rule(3, 3, 0), LATIN, Calendar(1, [1], [3, 6, 9]), 0), [])

    def test_great_calendars(self):
        number = 2 * 3 * 5 * 7 * 11 * 13 * 17 * 19 * 23
        divisors = divisor_list(number)
        chosen = [d for d in divisors if gcd(d, 30) == 1]
        left_out = [n for n in range(10 ** 6) if gcd(n, 30) == 1][-80:]
        for extra, expected in [(left_out, [(6, 8), (8, 8)]), (left_out[1:] + [999999], [(8, 8)])]:
            sizes = Calendar(number, chosen, extra)
            self.assertEqual((len(divisors), len(sizes.extra)), (512, 80))
            self.assertEqual(mends(Rule(7, 8, 0), LATIN, sizes, 4), expected)
            for rule, steps in itertools.product(RULES, LISTS):
                for pair in mends(rule, steps, sizes, 4):
                    for slope in slopes(pair, steps):
                        self.assertTrue(slope != 0 and 30 ** 9 % slope == 0)
        some = Calendar(number, divisors[::2], list(range(1, 81)))
        self.assertEqual(mends(Rule(4, 4, 0), LISTS[9], some, 4), [])
        self.assertEqual(mends(Rule(4, 4, 0), [], some, 4), [(4, 4)])

class Best(unittest.TestCase):
    def expected(self, rule, steps, most):
        sets = {pair: clear_set(pair, steps) for _, pair in near(rule, most)}
        return sorted(pair for pair in sets if not any(sets[pair] < other for other in sets.values()))

    def test_against_all_tuples(self):
        for rule, steps in itertools.product(RULES, LISTS):
            for most in (0, 1, 3):
                self.assertEqual(best(rule, steps, most), self.expected(rule, steps, most), (rule.a, rule.b, steps))

    def test_most_changes_against_all_tuples(self):
        for rule, steps in [(RULES[1], LISTS[9]), (RULES[3], QUEENS), (RULES[4], LATIN), (RULES[6], LISTS[8])]:
            self.assertEqual(best(rule, steps, 4), self.expected(rule, steps, 4))

    def test_edges(self):
        for rule in RULES:
            self.assertEqual(best(rule, QUEENS, 0), [(rule.a, rule.b)])
            for steps in ([], [(0, 0)], [(0, 1), (0, 0)]):
                self.assertEqual(best(rule, steps, 4), sorted(pair for _, pair in near(rule, 4)))
        self.assertEqual(best(Rule(0, 0, 5), LATIN, 1), [(-1, 0), (0, -1), (0, 0), (0, 1), (1, 0)])
        self.assertEqual(best(Rule(0, 0, 5), LATIN, 2), [(-1, -1), (-1, 1), (1, -1), (1, 1)])

    def test_against_calendars(self):
        rule = Rule(8, 5, 0)
        found = best(rule, QUEENS, 3)
        told = {pair: clear_sizes(Rule(*pair, 0), QUEENS) for _, pair in near(rule, 3)}
        for pair, sizes in told.items():
            above = [other for other in told.values() if sizes.outside(other) is None and sizes != other]
            self.assertEqual(pair in found, not above)


class Claims(unittest.TestCase):
    def check(self, told, sizes):
        against = [n for n in range(1, REACH) if n in sizes and n not in told]
        expected = against[0] if against else None
        self.assertEqual(refuted(told, sizes), expected)
        self.assertIs(holds(told, sizes), not against)
        return not against

    def test_against_the_sizes_one_by_one(self):
        answers = [self.check(told, sizes) for told, sizes in itertools.product(CALENDARS, repeat=2)]
        self.assertGreater(min(answers.count(True), answers.count(False)), 50)

    def test_more_calendars_one_by_one(self):
        picks = random.Random(12)
        for _ in range(400):
            numbers = [picks.choice([1, 2, 4, 6, 9, 10, 12, 15, 30]) for _ in range(2)]
            one, other = [
                Calendar(
                    number, [d for d in divisor_list(number) if picks.random() < 0.4],
                    [picks.randint(1, 40) for _ in range(picks.randrange(6))])
                for number in numbers
            ]
            for told, sizes in [(one, other), (one | other, one), (one, one & other), (one, one), (one, ~one)]:
                self.check(told, sizes)

    def test_clear_sizes_one_by_one(self):
        for rule, steps, sizes in itertools.product(RULES, LISTS, CALENDARS):
            told = clear_sizes(rule, steps)
            against = refuted(told, sizes)
            before = range(1, REACH if against is None else against)
            for n in before:
                self.assertTrue(n not in sizes or all(is_clear(rule, n, step) for step in steps))
            if against is not None:
                self.assertIn(against, sizes)
                self.assertFalse(all(is_clear(rule, against, step) for step in steps))

    def test_edges(self):
        self.assertEqual([holds(told, NONE) for told in CALENDARS], [True] * len(CALENDARS))
        self.assertEqual([refuted(EVERY, sizes) for sizes in CALENDARS], [None] * len(CALENDARS))
        self.assertEqual([refuted(NONE, sizes) for sizes in CALENDARS], [sizes.first() for sizes in CALENDARS])
        self.assertEqual(refuted(Calendar(1, [1], [10 ** 6]), EVERY), 10 ** 6)
        self.assertEqual(refuted(Calendar(997 * 991, [1], []), Calendar(997 * 991, [1, 997 * 991], [])), 997 * 991)

    def test_great_calendars(self):
        common = 2 * 3 * 5 * 7 * 11 * 13 * 17 * 19
        one = Calendar(common * 997, divisor_list(common * 997)[::3], list(range(1, 10 ** 6, 12500)))
        other = Calendar(common * 991, divisor_list(common * 991)[1::5], list(range(7, 10 ** 6, 12500)))
        for told, sizes in [(one, other), (other, one), (~one, one), (one | other, one)]:
            least = next((n for n in range(1, 10 ** 4) if n in sizes and n not in told), None)
            self.assertEqual((refuted(told, sizes), holds(told, sizes)), (least, least is None))


class Values(unittest.TestCase):
    def test_given_lists_are_neither_changed_nor_kept(self):
        rule, steps = Rule(3, 3, 0), [(0, 1), (1, 1), (0, 1)]

        def answers():
            return mends(rule, steps, ODD, 3), best(rule, steps, 2), refuted(SIX, ODD), holds(ODD, SIX)

        before = answers()
        self.assertEqual(steps, [(0, 1), (1, 1), (0, 1)])
        steps.append((-1, 1))
        self.assertNotEqual(answers()[0], before[0])
        self.assertNotEqual(answers()[1], before[1])
        steps.pop()
        self.assertEqual(answers(), before)
        self.assertEqual((rule.a, rule.b, rule.d), (3, 3, 0))
        self.assertEqual([(s.number, s.divisors, s.extra) for s in (ODD, SIX)], [(2, [1], []), (6, [1], [])])

    def test_returned_lists_are_new(self):
        rule = Rule(3, 3, 0)
        calls = [
            lambda: mends(rule, LATIN, ODD, 3), lambda: best(rule, LATIN, 2), lambda: mends(rule, LATIN, EVERY, 0)]
        for call in calls:
            first, second = call(), call()
            self.assertIsNot(first, second)
            self.assertEqual((type(first), {type(pair) for pair in first} <= {tuple}), (list, True))
            first.append(None)
            self.assertEqual(call(), second)

    def test_by_name(self):
        self.assertEqual(mends(rule=Rule(1, 1, 0), steps=QUEENS, sizes=SIX, most=1), [(1, 2), (2, 1)])
        self.assertEqual(best(rule=Rule(1, 1, 0), steps=QUEENS, most=1), [(1, 2), (2, 1)])
        self.assertIs(holds(told=ODD, sizes=SIX), True)
        self.assertEqual(refuted(told=SIX, sizes=ODD), 3)
