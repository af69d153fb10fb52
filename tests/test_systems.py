import itertools
import random
import unittest

import walked
from rulesquares.systems import fitting_rules


class Systems(unittest.TestCase):
    def check(self, n, cells):
        fitting = [
            told for told in itertools.product(range(n), repeat=3)
            if all(walked.sign(told, n, row, column) == sign for row, column, sign in cells)
        ]
        found = fitting_rules(n, cells)
        if not fitting:
            self.assertIsNone(found)
            return
        first, moves = found
        self.assertEqual(first, fitting[0])
        self.assertEqual([moves[at][:at] for at in range(3)], [[], [0], [0, 0]])
        self.assertEqual([n % moves[at][at] for at in range(3)], [0, 0, 0])
        times = itertools.product(*[range(n // moves[at][at]) for at in range(3)])
        reached = [
            tuple((first[at] + sum(many * move[at] for many, move in zip(some, moves))) % n for at in range(3))
            for some in times
        ]
        self.assertEqual(sorted(reached), fitting)

    def test_moves_reach_all_fitting_tuples(self):
        picks = random.Random(11)
        for n in (1, 2, 3, 4, 6, 8, 9, 10, 12):
            self.check(n, [])
            for _ in range(25):
                rule = [picks.randrange(n) for _ in range(3)]
                cells = [(picks.randrange(n), picks.randrange(n)) for _ in range(picks.choice([1, 2, 2, 3, 5]))]
                told = [(*cell, walked.sign(rule, n, *cell)) for cell in cells]
                self.check(n, told)
                self.check(n, told + [(*cells[0], picks.randrange(n))])
                self.check(n, told + [(0, 0, picks.randrange(n))])

    def test_given_lists_stay(self):
        cells = [(0, 0, 1), (2, 4, 3)]
        fitting_rules(6, cells)
        self.assertEqual(cells, [(0, 0, 1), (2, 4, 3)])
