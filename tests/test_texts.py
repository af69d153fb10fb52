import unittest

from rulesquares.calendars import Calendar
from rulesquares.lines import clear_sizes, same_turned
from rulesquares.rules import Rule
from rulesquares.texts import show_calendar, show_rule, show_square

FAR = 10 ** 60 - 1


class Shown(unittest.TestCase):
    def test_rules(self):
        for given, text in [
            ((2, -1, 0), "2r + -1c + 0"), ((0, 0, 0), "0r + 0c + 0"), ((-20, 15, -99), "-20r + 15c + -99"),
            ((FAR, -FAR, 7), "9" * 60 + "r + -" + "9" * 60 + "c + 7"),
        ]:
            self.assertEqual(show_rule(Rule(*given)), text)

    def test_calendars(self):
        for given, text in [
            ((6, [1, 2], [4, 9]), "3 (1) but 4,9"), ((1, [], []), "1 ()"), ((1, [1], []), "1 (1)"),
            ((1, [], [7]), "1 () but 7"), ((1, [1], [1, 2, 10]), "1 (1) but 1,2,10"), ((2, [1], []), "2 (1)"),
            ((12, [12, 1, 4, 1], []), "12 (1,4,12)"), ((6, [6, 3], []), "3 (3)"),
            ((2, [2], [9, 4, 9]), "2 (2) but 4,9"),
            ((10 ** 12, [10 ** 12], [10 ** 6]), "1000000000000 (1000000000000) but 1000000"),
        ]:
            self.assertEqual(show_calendar(Calendar(*given)), text)

    def test_calendars_that_the_package_returned(self):
        self.assertEqual(show_calendar(clear_sizes(Rule(2, 1, 0), [(0, 1), (1, 0), (1, 1), (-1, 1)])), "6 (1)")
        told = [show_calendar(sizes) for _, sizes in same_turned(Rule(1, 1, 0), Rule(1, 1, 0))]
        self.assertEqual(told[:4], ["1 (1)", "1 () but 1", "1 () but 1,2", "1 () but 1"])
        great = Calendar(10 ** 12, [10 ** 12], []) & Calendar(997 ** 4, [997 ** 4], [])
        self.assertEqual(show_calendar(great), f"{997 ** 4 * 10 ** 12} ({997 ** 4 * 10 ** 12})")

    def test_squares(self):
        for rows, text in [
            ([[0]], "0"), ([[0, 1], [-5]], "0 1; -5"), (Rule(2, 1, 0).square(3), "0 1 2; 2 0 1; 1 2 0"),
            ([[1], [2], [3]], "1; 2; 3"), ([[FAR, -FAR]], "9" * 60 + " -" + "9" * 60), ([[-1, 0, 7]], "-1 0 7"),
        ]:
            self.assertEqual(show_square(rows), text)
        self.assertEqual(len(show_square([[10 ** 61] * 40] * 40)), 40 * 40 * 63 - 1 + 39)

    def test_given_lists_stay(self):
        rows = [[0, 1], [-5]]
        (show_square(rows), show_square(rows))
        self.assertEqual(rows, [[0, 1], [-5]])
        some = Calendar(6, [1, 2], [4, 9])
        (show_calendar(some), show_calendar(some))
        self.assertEqual((some.number, some.divisors, some.extra), (3, [1], [4, 9]))

    def test_by_name(self):
        self.assertEqual(show_rule(rule=Rule(1, 2, 3)), "1r + 2c + 3")
        self.assertEqual(show_calendar(calendar=Calendar(2, [1], [])), "2 (1)")
        self.assertEqual(show_square(rows=[[1, 2]]), "1 2")
