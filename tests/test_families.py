import itertools
import random
import unittest
from math import gcd

import walked
from rulesquares.errors import InvalidNumber, InvalidSize, SquareError
from rulesquares.families import count_rules, judge_pairs, most_pairs, pair_list, rules_at
from wrong import Wrong

LATIN = [(0, 1), (1, 0)]
QUEENS = [(0, 1), (1, 0), (1, 1), (-1, 1)]
LISTS = [
    [], [(1, 0)], LATIN, QUEENS, [(0, 0)], [(0, 1), (0, 0)], [(2, 3), (2, 3)], [(2, -4)], [(3, 0), (0, -3)],
    [(5, 5), (0, 1), (-5, 0)], [(1, 2), (3, 1), (-2, 1), (4, 3)], [(0, 1), (1, 0), (1, 1), (-1, 1), (1, 2), (2, 1)],
    [(1, 1), (-1, 4), (4, -1), (2, 2), (-3, 2), (5, 0)], [(2, 4), (4, 2)],
]
GREAT_PRIME = 10 ** 6 - 17
MANY_PRIMES = 2 * 3 * 5 * 7 * 11 * 13 * 17


def pairs_below(n):
    return list(itertools.product(range(n), repeat=2))


def is_clear(rule, n, steps):
    a, b = rule
    return all(gcd(a * down + b * right, n) == 1 for down, right in steps)


def is_paired(one, other, n):
    return gcd(one[0] * other[1] - other[0] * one[1], n) == 1


def walked_rules(n, steps):
    """The rules that are clear on all steps, found by walking all lines."""
    walks = [walked.lines(n, step) for step in steps]
    return [
        (a, b) for a, b in pairs_below(n)
        if all(walked.clear(walked.signs((a, b, 0), n), places) for places in walks)
    ]


def greatest_clique(rules, linked):
    """The greatest number of rules that are linked with each other, found by trying."""
    def coloured(left):
        """The rules with bounds: no more than so many of those up to here are linked with each other."""
        colours = []
        for rule in left:
            free = [colour for colour in colours if not any(other in linked[rule] for other in colour)]
            (free[0] if free else colours.append([]) or colours[-1]).append(rule)
        return [(rule, bound) for bound, colour in enumerate(colours, 1) for rule in colour]

    def grown(size, left, known):
        most = max(known, size)
        found = coloured(left)
        while found and size + found[-1][1] > most:
            rule, _ = found.pop()
            most = grown(size + 1, [other for other, _ in found if other in linked[rule]], most)
        return most

    return grown(0, rules, 0)


class Counts(unittest.TestCase):
    def test_against_all_tuples_by_walking(self):
        for n in range(1, 9):
            for steps in LISTS:
                found = walked_rules(n, steps)
                self.assertEqual(rules_at(n, steps), found, (n, steps))
                self.assertEqual(count_rules(n, steps), len(found), (n, steps))

    def test_against_all_tuples_by_common_divisors(self):
        for n in range(1, 41):
            for steps in LISTS:
                found = [rule for rule in pairs_below(n) if is_clear(rule, n, steps)]
                self.assertEqual(rules_at(n, steps), found, (n, steps))
                self.assertEqual(count_rules(n, steps), len(found), (n, steps))

    def test_every_step(self):
        for step in itertools.product(range(-5, 6), repeat=2):
            for n in (2, 3, 4, 5, 6, 10):
                found = [rule for rule in pairs_below(n) if is_clear(rule, n, [step, (1, 1)])]
                self.assertEqual((count_rules(n, [step, (1, 1)]), rules_at(n, [step, (1, 1)])), (len(found), found))

    def test_size_one(self):
        for steps in LISTS:
            self.assertEqual((count_rules(1, steps), rules_at(1, steps)), (1, [(0, 0)]))

    def test_no_steps_leave_all_rules(self):
        self.assertEqual([count_rules(n, []) for n in (1, 2, 12, 10 ** 6, GREAT_PRIME)], [
            1, 4, 144, 10 ** 12, GREAT_PRIME ** 2])
        self.assertEqual(rules_at(3, []), pairs_below(3))

    def test_step_that_stays(self):
        self.assertEqual([count_rules(n, [(0, 0)]) for n in (1, 2, 10 ** 6)], [1, 0, 0])
        self.assertEqual(rules_at(7, [(0, 1), (0, 0)]), [])

    def test_great_sizes(self):
        prime = GREAT_PRIME
        self.assertEqual(count_rules(prime, LATIN), (prime - 1) ** 2)
        self.assertEqual(count_rules(prime, QUEENS), (prime - 1) * (prime - 3))
        self.assertEqual(count_rules(10 ** 6, [(1, 0)]), 4 * 10 ** 11)
        self.assertEqual(count_rules(5 ** 8, QUEENS), 8 * 5 ** 14)
        for n in (MANY_PRIMES, 30030, 997002, 720720):
            for steps in LISTS:
                many, rest = 1, n
                for prime in [p for p in range(2, 1000) if n % p == 0 and all(p % q for q in range(2, p))]:
                    rest //= prime
                    if prime < 100:
                        many *= sum(is_clear(rule, prime, steps) for rule in pairs_below(prime))
                    else:
                        many *= count_rules(prime, steps)
                self.assertEqual(count_rules(n, steps), many * rest * rest, (n, steps))

    def test_by_name(self):
        self.assertEqual(count_rules(n=5, steps=LATIN), 16)
        self.assertEqual(rules_at(n=2, steps=LATIN), [(1, 1)])


class MostPairs(unittest.TestCase):
    def check(self, n, steps):
        rules = walked_rules(n, steps)
        linked = {rule: set() for rule in rules}
        for one, other in itertools.combinations(rules, 2):
            if walked.paired((*one, 0), (*other, 0), n):
                linked[one].add(other)
                linked[other].add(one)
        self.assertEqual(most_pairs(n, steps), greatest_clique(rules, linked), (n, steps))

    def test_against_all_tuples(self):
        for n in range(2, 9):
            for steps in LISTS:
                self.check(n, steps)

    def test_greater_sizes_against_all_tuples(self):
        for n in (9, 10, 11):
            for steps in LISTS[2:4] + LISTS[9:]:
                self.check(n, steps)

    def test_great_sizes(self):
        self.assertEqual(most_pairs(GREAT_PRIME, []), GREAT_PRIME + 1)
        self.assertEqual(most_pairs(GREAT_PRIME, QUEENS + [(2, 2), (1, 0)]), GREAT_PRIME - 3)
        self.assertEqual(most_pairs(GREAT_PRIME, [(0, 1), (0, 0)]), 0)
        self.assertEqual([most_pairs(MANY_PRIMES, steps) for steps in ([], [(4, 5)], LATIN, QUEENS)], [3, 2, 1, 0])
        self.assertEqual(most_pairs(991 * 997, LATIN), 990)
        self.assertEqual(most_pairs(991 ** 2, [(0, 1)]), 991)

    def test_directions_that_are_the_same_modulo_a_prime(self):
        steps = [(1, 1), (-1, 4), (4, -1), (2, 2)]
        self.assertEqual([most_pairs(n, steps) for n in (5, 7, 25, 35)], [5, 5, 5, 5])
        self.assertEqual([most_pairs(n, [(3, 0), (0, 3)]) for n in (3, 5, 15)], [0, 4, 0])

    def test_by_name(self):
        self.assertEqual(most_pairs(n=5, steps=QUEENS), 2)


class PairLists(unittest.TestCase):
    def check(self, n, steps, many):
        found = pair_list(n, steps, many)
        self.assertEqual((type(found), {type(rule) for rule in found}), (list, {tuple} if many else set()))
        self.assertEqual(len(found), many)
        for rule in found:
            self.assertTrue(0 <= rule[0] < n and 0 <= rule[1] < n and is_clear(rule, n, steps), (n, steps, found))
        for one, other in itertools.combinations(found, 2):
            self.assertTrue(is_paired(one, other, n), (n, steps, found))
        self.assertIs(judge_pairs(n, steps, found), True)
        return found

    def test_all_lengths(self):
        for n in range(2, 41):
            for steps in LISTS:
                for many in range(most_pairs(n, steps) + 1):
                    self.check(n, steps, many)

    def test_by_walking(self):
        for n in range(2, 12):
            for steps in LISTS:
                found = self.check(n, steps, most_pairs(n, steps))
                rules = walked_rules(n, steps) if n < 8 else found
                for one, other in itertools.combinations(found, 2):
                    self.assertIn(one, rules)
                    self.assertTrue(walked.paired((*one, 0), (*other, 0), n))

    def test_great_sizes(self):
        for n in (GREAT_PRIME, 10 ** 6, MANY_PRIMES, 61 * 67 * 71, 997 ** 2, 991 * 997, 2 ** 19, 59 * 61 * 263):
            for steps in LISTS:
                most = min(60, most_pairs(n, steps))
                for many in {0, most // 2, most}:
                    self.check(n, steps, many)

    def test_none(self):
        self.assertEqual(pair_list(6, QUEENS, 0), [])
        self.assertEqual(pair_list(2, [(0, 0)], 0), [])

    def test_by_name(self):
        self.assertEqual(len(pair_list(n=5, steps=LATIN, many=4)), 4)


class Judged(unittest.TestCase):
    def expected(self, n, steps, told):
        within = all(0 <= entry < n for rule in told for entry in rule)
        return (
            within and set(told) <= set(walked_rules(n, steps))
            and all(walked.paired((*one, 0), (*other, 0), n) for one, other in itertools.combinations(told, 2))
        )

    def test_all_lists_of_two(self):
        for n, steps in itertools.product((2, 3), ([], LATIN, [(1, 1)])):
            tuples = list(itertools.product(range(-1, n + 2), repeat=2))
            lists = [[]] + [[rule] for rule in tuples] + [list(two) for two in itertools.product(tuples, repeat=2)]
            for told in lists:
                self.assertIs(judge_pairs(n, steps, told), self.expected(n, steps, told), (n, steps, told))

    def test_longer_lists(self):
        picks = random.Random(4)
        seen = []
        for _ in range(600):
            n = picks.choice([4, 5, 6, 7])
            steps = picks.choice(LISTS[:3] + LISTS[7:8])
            told = pair_list(n, steps, most_pairs(n, steps))
            if picks.random() < 0.7 and told:
                told[picks.randrange(len(told))] = (picks.randrange(-1, n + 1), picks.randrange(n))
            picks.shuffle(told)
            seen.append(judge_pairs(n, steps, told))
            self.assertIs(seen[-1], self.expected(n, steps, told), (n, steps, told))
        self.assertGreater(min(seen.count(True), seen.count(False)), 100)

    def test_empty_list(self):
        for n in (2, 6, 10 ** 6):
            for steps in LISTS:
                self.assertIs(judge_pairs(n, steps, []), True)

    def test_a_rule_twice(self):
        self.assertIs(judge_pairs(5, LATIN, [(1, 1), (1, 2)]), True)
        self.assertIs(judge_pairs(5, LATIN, [(1, 1), (1, 2), (1, 1)]), False)
        self.assertIs(judge_pairs(5, [], [(0, 0), (0, 0)]), False)
        self.assertIs(judge_pairs(5, [], [(0, 0)]), True)

    def test_integers_outside(self):
        far = 10 ** 61
        for rule in [(-1, 1), (1, -1), (5, 1), (1, 5), (6, 1), (far, 1), (1, -far), (5 * far + 1, 1)]:
            self.assertIs(judge_pairs(5, LATIN, [rule]), False)
            self.assertIs(judge_pairs(5, LATIN, [(1, 2), rule]), False)
        self.assertIs(judge_pairs(6, [], [(5, 6)]), False)

    def test_great_sizes(self):
        told = [(1, b) for b in range(1, 61)]
        self.assertIs(judge_pairs(GREAT_PRIME, LATIN, told), True)
        self.assertIs(judge_pairs(GREAT_PRIME, LATIN, told[:-1] + [(2, 118)]), False)
        self.assertIs(judge_pairs(997 ** 2, LATIN, told), True)
        self.assertIs(judge_pairs(59 * 61, LATIN, told), False)
        self.assertIs(judge_pairs(10 ** 6, LATIN, told[:2]), False)

    def test_by_name(self):
        self.assertIs(judge_pairs(n=5, steps=QUEENS, told=[(1, 2), (2, 1)]), True)


class WrongInputs(Wrong):
    def test_sizes(self):
        for n in (0, -1, -10 ** 61):
            for steps in (LATIN, [], [(0, 0)]):
                self.check(InvalidSize, n, count_rules, n, steps)
                self.check(InvalidSize, n, rules_at, n, steps)
        for n in (1, 0, -1, -10 ** 61):
            for steps in (LATIN, [], [(0, 0)]):
                self.check(InvalidSize, n, most_pairs, n, steps)
                self.check(InvalidSize, n, pair_list, n, steps, 0)
                self.check(InvalidSize, n, judge_pairs, n, steps, [])

    def test_lengths(self):
        for n, steps in [(5, LATIN), (6, QUEENS), (35, []), (2, [(0, 0)]), (12, [(1, 0)])]:
            most = most_pairs(n, steps)
            for many in (-1, -60, most + 1, most + 2, 60):
                self.check(InvalidNumber, many, pair_list, n, steps, many)

    def test_which_error_comes_first(self):
        for many in (-1, 60):
            self.check(InvalidSize, 1, pair_list, 1, LATIN, many)
            self.check(InvalidSize, 0, pair_list, 0, [], many)
        self.check(InvalidSize, 1, judge_pairs, 1, LATIN, [(-1, 9)])

    def test_greater_sizes_are_no_error(self):
        n = 2 ** 40 * 3
        self.assertEqual(count_rules(n, [(0, 1)]), n * n // 3)
        self.assertEqual(len(rules_at(41, [(0, 1)])), 41 * 40)
        self.assertEqual(most_pairs(n, [(0, 1)]), 2)


class Values(unittest.TestCase):
    def test_given_lists_are_neither_changed_nor_kept(self):
        steps, told = [(0, 1), (1, 1), (0, 1)], [(1, 1), (2, 3)]

        def answers():
            return [
                count_rules(5, steps), rules_at(5, steps), most_pairs(5, steps), pair_list(5, steps, 3),
                judge_pairs(5, steps, told),
            ]

        before = answers()
        self.assertEqual((steps, told), ([(0, 1), (1, 1), (0, 1)], [(1, 1), (2, 3)]))
        steps.append((1, 0))
        told.append((4, 2))
        self.assertNotEqual(answers(), before)
        (steps.pop(), told.pop())
        for call in (lambda: pair_list(5, steps, 9), lambda: judge_pairs(1, steps, told), lambda: rules_at(0, steps)):
            with self.assertRaises(SquareError):
                call()
        self.assertEqual(answers(), before)

    def test_returned_lists_are_new(self):
        for call in (lambda: rules_at(5, LATIN), lambda: pair_list(5, LATIN, 4), lambda: pair_list(5, LATIN, 0)):
            first, second = call(), call()
            self.assertIsNot(first, second)
            first.append(None)
            self.assertEqual(call(), second)
