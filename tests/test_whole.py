"""What the document promises over all modules."""

import importlib
import inspect
import unittest

from rulesquares.boards import Board, ClearBoard
from rulesquares.calendars import Calendar
from rulesquares.errors import (
    InvalidCell, InvalidNumber, InvalidSize, InvalidTurn, NoRule, NothingToUndo, SquareError, Taken, Unreadable)
from rulesquares.families import count_rules, judge_pairs, most_pairs, pair_list, rules_at
from rulesquares.fits import asked, everywhere, fitting, forced
from rulesquares.joined import Joined
from rulesquares.lines import (
    clear_sizes, is_clear, is_paired, pair_sizes, quarrel, same_sizes, same_turned, twins)
from rulesquares.mends import best, holds, mends, refuted
from rulesquares.numbers import (
    Numbers, alike_sizes, even_sizes, even_sum, magic_sizes, main_sizes, once_sizes, unlike_line, whole_sizes)
from rulesquares.places import cells_of, columns_of, overlap, rows_of
from rulesquares.readings import read_calendar, read_rule, read_square
from rulesquares.rules import Rule
from rulesquares.texts import show_calendar, show_rule, show_square

FUNCTIONS = {
    "lines": {
        "is_clear": "rule n step", "clear_sizes": "rule steps", "is_paired": "one other n", "pair_sizes": "one other",
        "same_sizes": "one other", "same_turned": "one other", "quarrel": "rule n step", "twins": "one other n",
    },
    "numbers": {
        "even_sum": "n", "once_sizes": "square", "alike_sizes": "square step", "unlike_line": "square n step",
        "even_sizes": "square step", "main_sizes": "square", "magic_sizes": "square", "whole_sizes": "square",
    },
    "places": {
        "columns_of": "rule n row sign", "rows_of": "rule n column sign", "cells_of": "square n number",
        "overlap": "one other n sign other_sign",
    },
    "families": {
        "count_rules": "n steps", "rules_at": "n steps", "most_pairs": "n steps", "pair_list": "n steps many",
        "judge_pairs": "n steps told",
    },
    "fits": {"fitting": "n cells", "forced": "n cells row column", "asked": "n cells", "everywhere": "seen most"},
    "mends": {
        "mends": "rule steps sizes most", "best": "rule steps most", "holds": "told sizes", "refuted": "told sizes"},
    "texts": {"show_rule": "rule", "show_calendar": "calendar", "show_square": "rows"},
    "readings": {"read_rule": "text", "read_calendar": "text", "read_square": "text"},
}
CLASSES = {
    Calendar: {
        "__init__": "number divisors extra", "first": "", "total": "limit", "at": "k", "share": "", "outside": "other"},
    Rule: {
        "__init__": "a b d", "sign": "n row column", "slope": "step", "square": "n", "shifted": "rows columns",
        "turned": "way",
    },
    Numbers: {
        "__init__": "high low", "number_at": "n row column", "square": "n", "line_sum": "n step row column",
        "main_sums": "n",
    },
    Joined: {
        "__init__": "outer m inner k", "sign": "row column", "rows_clear": "", "columns_clear": "", "paired": "other",
        "place": "row sign",
    },
    Board: {"__init__": "n", "__call__": "row column sign", "signs_at": "row column", "add_all": "cells", "undo": ""},
    ClearBoard: {"__init__": "n steps", "__call__": "row column sign", "add_all": "cells"},
}
PROPERTIES = {
    Calendar: "number divisors extra", Rule: "a b d", Numbers: "high low", Joined: "size", Board: "size cells fits",
    ClearBoard: "steps",
}
SIGNS = {
    Calendar: "__contains__ __and__ __or__ __invert__ __eq__", Rule: "__add__ __sub__ __mul__ __eq__",
    Numbers: "__eq__", Joined: "__eq__", Board: "__len__ __eq__", ClearBoard: "__eq__",
}
KINDS = [InvalidSize, InvalidCell, InvalidNumber, InvalidTurn, Taken, NoRule, NothingToUndo, Unreadable]
STEPS = [(0, 1), (1, 0), (1, 1)]
SEEN = [(0, 0, 1), (1, 1, 4)]


def lists_in(value):
    """All lists in a value, itself and those in its tuples too."""
    if not isinstance(value, (list, tuple)):
        return []
    within = [found for entry in value for found in lists_in(entry)]
    return [value] + within if isinstance(value, list) else within


def parameters(function):
    return list(inspect.signature(function).parameters)


class Values:
    """One value of each kind."""

    def __init__(self):
        self.rule, self.other = Rule(2, 1, 5), Rule(3, -2, 0)
        self.sizes, self.some = Calendar(12, [1, 4], [4, 9]), Calendar(10, [1, 2, 5], [3])
        self.square = Numbers(self.rule, self.other)
        self.joined = Joined(self.rule, 3, self.other, 4)
        self.board, self.clear = Board(6), ClearBoard(6, STEPS)
        (self.board.add_all(SEEN), self.clear.add_all(SEEN[:1]))

    def answers(self):
        """What the values, and functions of all modules, answer."""
        rule, other, sizes, some, square = self.rule, self.other, self.sizes, self.some, self.square
        joined, board, clear = self.joined, self.board, self.clear
        return [
            sizes.number, sizes.divisors, sizes.extra, 4 in sizes, sizes & some, sizes | some, ~sizes, sizes.first(),
            sizes.total(99), sizes.at(7), sizes.share(), sizes.outside(some), sizes == some,
            rule.a, rule.b, rule.d, rule.sign(9, 3, 4), rule.slope((1, 1)), rule.square(4), rule.shifted(2, 3),
            rule.turned("anti"), rule + other, rule - other, rule * 3, rule == other,
            is_clear(rule, 9, (1, 1)), clear_sizes(rule, STEPS), is_paired(rule, other, 7), pair_sizes(rule, other),
            same_sizes(rule, other), same_turned(rule, other), quarrel(rule, 9, (1, 1)), twins(rule, other, 7),
            square.high, square.low, square.number_at(5, 1, 2), square.square(3), square.line_sum(6, (1, 1), 0, 1),
            square.main_sums(5), square == Numbers(other, rule), even_sum(4), once_sizes(square),
            alike_sizes(square, (1, 1)), unlike_line(square, 6, (1, 1)), even_sizes(square, (0, 1)), main_sizes(square),
            magic_sizes(square), whole_sizes(square), columns_of(rule, 9, 2, 3), rows_of(other, 9, 2, 3),
            cells_of(square, 7, 20), overlap(rule, other, 7, 1, 2),
            count_rules(15, STEPS), rules_at(5, STEPS), most_pairs(35, STEPS), pair_list(35, STEPS, 3),
            judge_pairs(5, STEPS, [(1, 1), (1, 2)]), fitting(6, SEEN), forced(6, SEEN, 2, 2), asked(6, SEEN),
            everywhere([(5, 0, 0, 1)], 1), mends(rule, STEPS, sizes, 4), best(rule, STEPS, 3), holds(some, sizes),
            refuted(some, sizes), joined.size, joined.sign(7, 4), joined.rows_clear(), joined.columns_clear(),
            joined.paired(joined), joined.place(7, 6), board.size, board.cells, board.fits, board.signs_at(0, 1),
            len(board), board == clear, clear.size, clear.cells, clear.fits, clear.steps, clear.signs_at(0, 1),
            len(clear), show_rule(rule), show_calendar(sizes), show_square([[1, 2], [1, 2]]), read_rule("2r + -1c + 0"),
            read_calendar("3 (1) but 4,9"), read_square("1 2; 1 2"),
        ]

    def refusals(self):
        """Calls that raise each of the errors."""
        return [
            (InvalidNumber, 0, lambda: Calendar(0, [], [])), (InvalidNumber, 5, lambda: Calendar(6, [5], [])),
            (InvalidSize, 0, lambda: Calendar(6, [1], [0])), (InvalidNumber, -1, lambda: self.sizes.at(-1)),
            (InvalidSize, 0, lambda: self.rule.sign(0, 0, 0)), (InvalidCell, (3, 0), lambda: self.rule.sign(3, 3, 0)),
            (InvalidTurn, "no", lambda: self.rule.turned("no")),
            (InvalidSize, 0, lambda: quarrel(self.rule, 0, (1, 1))),
            (InvalidSize, -1, lambda: self.square.main_sums(-1)),
            (InvalidNumber, 9, lambda: columns_of(self.rule, 9, 9, 0)),
            (InvalidSize, 1, lambda: most_pairs(1, STEPS)), (InvalidNumber, 9, lambda: pair_list(5, STEPS, 9)),
            (InvalidNumber, 6, lambda: fitting(6, [(0, 0, 6)])), (InvalidCell, (6, 6), lambda: forced(6, SEEN, 6, 6)),
            (InvalidSize, 0, lambda: everywhere([(0, 0, 0, 0)], 1)),
            (InvalidSize, 0, lambda: Joined(self.rule, 0, self.rule, 1)),
            (InvalidSize, 12, lambda: Joined(self.rule, 4, self.rule, 3).paired(self.joined)),
            (InvalidNumber, 12, lambda: self.joined.place(12, 0)),
            (InvalidCell, (0, 12), lambda: self.joined.sign(0, 12)),
            (Taken, (0, 0), lambda: self.board(0, 0, 1)),
            (NoRule, 0, lambda: self.board.add_all([(0, 1, 3), (2, 2, 0)])),
            (Taken, (0, 0), lambda: self.clear.add_all([(2, 3, 0), (3, 3, 1)])),
            (InvalidSize, 0, lambda: ClearBoard(0, STEPS)),
            (NothingToUndo, 0, lambda: Board(3).undo()), (Unreadable, "2r", lambda: read_rule("2r")),
            (Unreadable, "6 (1,2)", lambda: read_calendar("6 (1,2)")), (Unreadable, "", lambda: read_square("")),
        ]


class Whole(unittest.TestCase):
    def test_functions_stand_in_their_modules(self):
        for module, functions in FUNCTIONS.items():
            for name, given in functions.items():
                function = getattr(importlib.import_module(f"rulesquares.{module}"), name)
                self.assertEqual((function.__module__, parameters(function)), (f"rulesquares.{module}", given.split()))

    def test_classes_have_their_methods(self):
        modules = {Calendar: "calendars", Rule: "rules", Numbers: "numbers", Joined: "joined"}
        for kind, methods in CLASSES.items():
            self.assertEqual(kind.__module__, "rulesquares." + modules.get(kind, "boards"))
            for name, given in methods.items():
                self.assertEqual(parameters(vars(kind)[name])[1:], given.split(), (kind, name))
            for name in PROPERTIES[kind].split():
                self.assertIsInstance(vars(kind)[name], property)
            for name in SIGNS[kind].split():
                self.assertIn(name, vars(kind))
        self.assertEqual(ClearBoard.__bases__, (Board,))

    def test_answers_stay_after_other_questions(self):
        values, again = Values(), Values()
        before = values.answers()
        for kind, value, call in values.refusals():
            with self.assertRaises(SquareError) as caught:
                call()
            self.assertIs(type(caught.exception), kind)
            self.assertEqual(caught.exception.value, value)
        for found in lists_in(values.answers()):
            found.append(None)
        self.assertEqual(values.answers(), before)
        self.assertEqual(again.answers(), before)
        (values.board.undo(), values.clear(1, 2, 0), values.clear.undo(), values.board(1, 1, 4))
        self.assertEqual(values.answers(), before)

    def test_each_error_is_raised_somewhere(self):
        self.assertEqual({kind for kind, _, _ in Values().refusals()}, set(KINDS))
        for kind in KINDS:
            self.assertEqual(kind.__bases__, (SquareError,))
        self.assertEqual(SquareError.__bases__, (ValueError,))

    def test_no_list_stands_in_two_places(self):
        values = Values()
        told = [values.answers(), values.answers()]
        found = [id(one) for one in lists_in(told)]
        self.assertEqual(len(set(found)), len(found))
        self.assertNotIn(id(STEPS), found)
        self.assertNotIn(id(SEEN), found)

    def test_objects_of_other_kinds_are_not_equal(self):
        values = Values()
        objects = [
            values.rule, values.sizes, values.square, values.joined, values.board, values.clear, 1, None, "2r", [], ()]
        for at, one in enumerate(objects):
            for place, other in enumerate(objects):
                self.assertIs(one == other, at == place)
                self.assertIs(one != other, at != place)

    def test_objects_do_not_share_what_they_hold(self):
        board = Board(6)
        lists = [board.cells, [], Board(6).cells]
        for value in lists:
            value.append((0, 0, 0))
        self.assertEqual((board.cells, Board(6).cells, len(board)), ([], [], 0))

    def test_what_is_told_may_be_passed_back(self):
        rule, odd = Rule(2, 1, 0), Calendar(2, [1], [])
        found = mends(rule, STEPS, odd, 4)
        self.assertTrue(holds(clear_sizes(Rule(*found[0], 0), STEPS), odd) if found else True)
        many, first = fitting(7, [(*cell, rule.sign(7, *cell)) for cell in [(0, 0), (0, 1), (1, 0)]])
        self.assertEqual((many, Rule(*first)), (1, rule))
        self.assertIs(judge_pairs(35, STEPS, pair_list(35, STEPS, 3)), True)
        cell = quarrel(rule, 9, (1, 1))
        self.assertEqual(rule.sign(9, *cell), rule.sign(9, 0, 0))
        self.assertEqual(show_square(read_square(show_square(rule.square(5)))), show_square(rule.square(5)))
