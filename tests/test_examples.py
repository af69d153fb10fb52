"""The examples of the document, as they are written there, and those of README.md."""

import doctest
import pathlib
import unittest

CALENDARS = """
>>> from rulesquares.calendars import Calendar
>>> odd, third = Calendar(2, [1], []), Calendar(6, [6, 3], [])
>>> [third.number, third.divisors, 9 in (odd & third), (odd | third).first(), (~odd).at(4), odd.outside(third), (odd & third).share(), odd.total(10 ** 30)]
[3, [3], True, 1, 10, 1, (1, 6), 500000000000000000000000000000]
>>> some = Calendar(2, [1], [1, 4])
>>> [1 in some, 4 in some, some.first(), (some & ~odd).extra, some == odd, Calendar(1, [], [7]).total(100), Calendar(1, [], [7]).outside(odd)]
[False, True, 3, [4], False, 1, None]
"""

RULES = """
>>> from rulesquares.rules import Rule
>>> rule = Rule(2, 1, 0)
>>> [rule.square(3), rule.sign(10 ** 30, 10 ** 29, 5), rule.slope((-1, 1)), rule.turned("quarter") == Rule(1, -2, -2), rule.turned("quarter").square(3)]
[[[0, 1, 2], [2, 0, 1], [1, 2, 0]], 200000000000000000000000000005, -1, True, [[1, 2, 0], [2, 0, 1], [0, 1, 2]]]
>>> [rule.shifted(1, 1).d, (rule + Rule(1, 1, 1) * 2) == Rule(4, 3, 2), (rule - rule).square(2)]
[3, True, [[0, 0], [0, 0]]]
"""

LINES = """
>>> from rulesquares.lines import clear_sizes, is_clear, is_paired, pair_sizes, quarrel, same_sizes, same_turned, twins
>>> from rulesquares.rules import Rule
>>> queens = Rule(2, 1, 0)
>>> [clear_sizes(queens, [(0, 1), (1, 0), (1, 1), (-1, 1)]).number, is_clear(queens, 9, (1, 1)), quarrel(queens, 9, (1, 1)), quarrel(queens, 9, (0, 1)), is_paired(queens, Rule(1, 2, 0), 10), pair_sizes(queens, Rule(4, 2, 0)).extra]
[6, False, (3, 3), None, True, [1]]
>>> turns = same_turned(Rule(1, 1, 0), Rule(1, 1, 0))
>>> [same_sizes(queens, Rule(8, 1, 6)).extra, turns[0][0], 7 in turns[0][1], 7 in turns[1][1], same_turned(queens, Rule(1, 2, 0))[6][1].divisors, twins(queens, Rule(1, 2, 0), 9), twins(queens, Rule(1, 2, 0), 10)]
[[1, 2, 3, 6], 'same', True, False, [1], ((0, 0), (3, 3)), None]
"""

NUMBERS = """
>>> from rulesquares.numbers import Numbers, alike_sizes, even_sizes, even_sum, magic_sizes, main_sizes, once_sizes, unlike_line, whole_sizes
>>> from rulesquares.rules import Rule
>>> plain = Numbers(Rule(1, 0, 0), Rule(0, 1, 0))
>>> [plain.square(2), plain.line_sum(3, (0, 1), 1, 0), plain.main_sums(3), even_sum(3), once_sizes(plain).divisors, alike_sizes(plain, (0, 1)).extra, even_sizes(plain, (1, 1)).number, main_sizes(plain).number]
[[[1, 2], [3, 4]], 15, (15, 15), 15, [1], [1], 1, 1]
>>> odd = Numbers(Rule(1, 2, 1), Rule(2, -1, 0))
>>> [odd.square(3), magic_sizes(odd).number, magic_sizes(odd).divisors, whole_sizes(odd).number, unlike_line(odd, 3, (1, 1)), unlike_line(plain, 3, (0, 1))]
[[[4, 3, 8], [9, 5, 1], [2, 7, 6]], 10, [1], 30, (0, 1), (1, 0)]
"""

PLACES = """
>>> from rulesquares.numbers import Numbers
>>> from rulesquares.places import cells_of, columns_of, overlap, rows_of
>>> from rulesquares.rules import Rule
>>> four = Rule(1, 4, 0)
>>> [columns_of(four, 6, 1, 3), columns_of(four, 6, 1, 2), rows_of(four, 6, 5, 0), columns_of(Rule(2, 1, 0), 10 ** 29, 3, 5)]
[(2, 3, 2), None, (4, 6, 1), (99999999999999999999999999999, 100000000000000000000000000000, 1)]
>>> odd = Numbers(Rule(1, 2, 1), Rule(2, -1, 0))
>>> [cells_of(odd, 3, 9), cells_of(odd, 3, 10), overlap(Rule(1, 1, 0), Rule(1, -1, 0), 4, 2, 0), overlap(Rule(1, 1, 0), Rule(1, -1, 0), 4, 1, 0)]
[(1, (1, 0)), (0, None), (2, (1, 1)), (0, None)]
"""

FAMILIES = """
>>> from rulesquares.families import count_rules, judge_pairs, most_pairs, pair_list, rules_at
>>> latin, queens = [(0, 1), (1, 0)], [(0, 1), (1, 0), (1, 1), (-1, 1)]
>>> [count_rules(5, latin), count_rules(5, queens), most_pairs(5, latin), most_pairs(5, queens), most_pairs(10 ** 6 - 17, queens), most_pairs(6, latin), most_pairs(6, queens), rules_at(5, queens)]
[16, 8, 4, 2, 999980, 1, 0, [(1, 2), (1, 3), (2, 1), (2, 4), (3, 1), (3, 4), (4, 2), (4, 3)]]
>>> [judge_pairs(5, latin, pair_list(5, latin, 4)), judge_pairs(5, queens, [(1, 2), (2, 1)]), judge_pairs(5, queens, [(1, 2), (2, 4)]), count_rules(35, latin), most_pairs(35, [])]
[True, True, False, 576, 6]
"""

FITS = """
>>> from rulesquares.fits import asked, everywhere, fitting, forced
>>> seen = [(0, 0, 1), (1, 1, 4)]
>>> [fitting(6, seen), forced(6, seen, 2, 2), forced(6, seen, 0, 1), asked(6, seen), fitting(6, seen + [(2, 2, 0)])]
[(6, (0, 3, 1)), (1, 6), (0, 1), (0, 1), (0, None)]
>>> [forced(6, [(0, 0, 1), (0, 2, 3)], 0, 1), fitting(10 ** 30, [(0, 0, 7), (0, 1, 8), (1, 0, 9)]), everywhere([(5, 0, 0, 1), (5, 1, 1, 4), (7, 1, 1, 4)], 2)]
[(2, 3), (1, (2, 1, 7)), [(1, 2, 1), (2, 1, 1)]]
"""

MENDS = """
>>> from rulesquares.calendars import Calendar
>>> from rulesquares.lines import clear_sizes
>>> from rulesquares.mends import best, holds, mends, refuted
>>> from rulesquares.rules import Rule
>>> odd, six = Calendar(2, [1], []), Calendar(6, [1], [])
>>> latin, queens = [(0, 1), (1, 0)], [(0, 1), (1, 0), (1, 1), (-1, 1)]
>>> [mends(Rule(3, 3, 0), latin, odd, 3), mends(Rule(1, 1, 0), queens, six, 1), mends(Rule(1, 1, 0), queens, odd, 2), best(Rule(1, 1, 0), queens, 1)]
[[(2, 2), (2, 4), (4, 2), (4, 4)], [(1, 2), (2, 1)], [], [(1, 2), (2, 1)]]
>>> [holds(clear_sizes(Rule(1, 1, 0), latin), odd), refuted(clear_sizes(Rule(2, 1, 0), queens), odd)]
[True, 3]
"""

JOINED = """
>>> from rulesquares.joined import Joined
>>> from rulesquares.rules import Rule
>>> one, other = Joined(Rule(1, 1, 0), 3, Rule(1, 1, 0), 5), Joined(Rule(2, 1, 0), 3, Rule(2, 1, 0), 5)
>>> [one.size, one.sign(7, 4), one.rows_clear(), one.paired(other), one.place(7, 6), Joined(Rule(1, 1, 0), 3, Rule(1, 2, 0), 4).rows_clear()]
[15, 6, True, True, [4], False]
"""

BOARDS = """
>>> from rulesquares.boards import Board, ClearBoard
>>> board = Board(6)
>>> [board(0, 0, 1), board(1, 1, 4), board.signs_at(2, 2), board.fits, board.undo(), board.cells, len(board)]
[36, 6, (1, 6), (6, (0, 3, 1)), None, [(0, 0, 1)], 1]
>>> clear = ClearBoard(5, [(0, 1), (1, 0)])
>>> [clear.add_all([(0, 0, 0), (0, 1, 1)]), clear.signs_at(0, 4), clear(1, 0, 2), clear.fits, clear == Board(5)]
[5, (4, 5), 1, (1, (2, 1, 0)), False]
"""

READINGS = """
>>> from rulesquares.calendars import Calendar
>>> from rulesquares.readings import read_calendar, read_rule, read_square
>>> from rulesquares.rules import Rule
>>> from rulesquares.texts import show_calendar, show_rule, show_square
>>> some = Calendar(6, [1, 2], [4, 9])
>>> [show_rule(Rule(2, -1, 0)), read_rule("2r + -1c + 0") == Rule(2, -1, 0), show_calendar(some), read_calendar(show_calendar(some)) == some, show_square(Rule(2, 1, 0).square(3)), read_square("0 1; -5")]
['2r + -1c + 0', True, '3 (1) but 4,9', True, '0 1 2; 2 0 1; 1 2 0', [[0, 1], [-5]]]
"""


class Examples(unittest.TestCase):
    def check(self, text):
        example = doctest.DocTestParser().get_doctest(text, {}, "DOC.md", None, 0)
        told = []
        result = doctest.DocTestRunner().run(example, out=told.append)
        self.assertGreater(result.attempted, 0)
        self.assertEqual(result.failed, 0, "".join(told))

    def test_calendars(self):
        self.check(CALENDARS)

    def test_rules(self):
        self.check(RULES)

    def test_lines(self):
        self.check(LINES)

    def test_numbers(self):
        self.check(NUMBERS)

    def test_places(self):
        self.check(PLACES)

    def test_families(self):
        self.check(FAMILIES)

    def test_fits(self):
        self.check(FITS)

    def test_mends(self):
        self.check(MENDS)

    def test_joined(self):
        self.check(JOINED)

    def test_boards(self):
        self.check(BOARDS)

    def test_readings(self):
        self.check(READINGS)

    def test_readme(self):
        text = (pathlib.Path(__file__).resolve().parent.parent / "README.md").read_text()
        self.check("".join(text.split("```")[1::2]))
