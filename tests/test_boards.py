import itertools
import random
import unittest

import walked
from rulesquares.boards import Board, ClearBoard
from rulesquares.errors import (
    InvalidCell, InvalidNumber, InvalidSize, NoRule, NothingToUndo, SquareError, Taken)
from rulesquares.fits import fitting, forced
from wrong import Wrong

GREAT = 10 ** 30
FAR = 10 ** 61
LATIN = [(0, 1), (1, 0)]
QUEENS = [(0, 1), (1, 0), (1, 1), (-1, 1)]
LISTS = [[], [(0, 0)], LATIN, QUEENS, [(2, 0)], [(2, -1), (3, 3)], [(0, 1)] * 2, [(-5, 4), (0, 0), (4, 2)]]


class Model:
    """A board that tries all tuples and walks all lines."""

    def __init__(self, n, steps):
        self.n = n
        self.cells = []
        self.tuples = list(itertools.product(range(n), repeat=3))
        self.near = {cell: set() for cell in walked.cells(n)}
        for step, cell in itertools.product(steps, walked.cells(n)):
            places = walked.line(n, step, cell)
            for place in places:
                self.near[place] |= set(places)

    def fitting(self, cells):
        return [
            told for told in self.tuples
            if all(walked.sign(told, self.n, row, column) == sign for row, column, sign in cells)
        ]

    def fits(self):
        found = self.fitting(self.cells)
        return len(found), found[0] if found else None

    def signs_at(self, cell):
        return sorted({walked.sign(told, self.n, *cell) for told in self.fitting(self.cells)})

    def refusal(self, cells, row, column, sign):
        """The kind and value of the error that is due for one more cell, None if it is right."""
        if (row, column) not in self.near:
            return InvalidCell, (row, column)
        if not 0 <= sign < self.n:
            return InvalidNumber, sign
        if (row, column) in [seen[:2] for seen in cells]:
            return Taken, (row, column)
        barring = [seen[:2] for seen in cells if seen[2] == sign and seen[:2] in self.near[row, column]]
        if barring:
            return Taken, barring[0]
        if not self.fitting(cells + [(row, column, sign)]):
            return NoRule, sign
        return None

    def add_all(self, added):
        """Add the cells, or return what speaks against the first wrong one."""
        cells = list(self.cells)
        for cell in added:
            refusal = self.refusal(cells, *cell)
            if refusal:
                return refusal
            cells.append(cell)
        self.cells = cells
        return None


def board_of(n, steps):
    return Board(n) if steps is None else ClearBoard(n, steps)


class AgainstTheModel(unittest.TestCase):
    def refused(self, call, *given):
        """The kind and value of the error that a call raises, or None and what it returns."""
        try:
            return None, call(*given)
        except SquareError as error:
            return type(error), error.value

    def pick(self, n, rule, picks):
        """A cell as the rule has it, or somehow, or a wrong one."""
        cell = (picks.randrange(n), picks.randrange(n))
        if picks.random() < 0.75:
            return (*cell, walked.sign(rule, n, *cell))
        if picks.random() < 0.8:
            return (*cell, picks.randrange(n))
        return tuple(picks.randint(-1, n) for _ in range(3))

    def act(self, board, model, rule, picks, kinds):
        """Do the same with the board and the model."""
        n, way = model.n, picks.random()
        if way < 0.2:
            expected = (None, None) if model.cells else (NothingToUndo, 0)
            self.assertEqual(self.refused(board.undo), expected)
            model.cells = model.cells[:-1]
            kinds.append(expected[0])
            return
        if way < 0.6:
            added = [self.pick(n, rule, picks)]
            found = self.refused(board, *added[0])
        else:
            added = [self.pick(n, rule, picks) for _ in range(picks.randrange(4))]
            found = self.refused(board.add_all, added)
        refusal = model.add_all(added)
        self.assertEqual(found, refusal or (None, model.fits()[0]))
        kinds.append(refusal[0] if refusal else None)

    def check(self, board, model):
        self.assertEqual((board.cells, len(board), board.fits), (model.cells, len(model.cells), model.fits()))
        for cell in walked.cells(model.n):
            least, apart = board.signs_at(*cell)
            self.assertEqual(list(range(least, model.n, apart)), model.signs_at(cell))

    def play(self, n, steps, seed, kinds):
        picks = random.Random(seed)
        board, model = board_of(n, steps), Model(n, steps or [])
        rule = [picks.randrange(n) for _ in range(3)]
        for _ in range(30):
            self.act(board, model, rule, picks, kinds)
            self.assertEqual(board.cells, model.cells)
            if len(board) > 11:
                break
        self.check(board, model)

    def test_boards(self):
        kinds = []
        for n in range(1, 7):
            for seed in range(12):
                self.play(n, None, seed, kinds)
        for kind in (None, InvalidCell, InvalidNumber, Taken, NoRule, NothingToUndo):
            self.assertIn(kind, kinds)

    def test_clear_boards(self):
        kinds = []
        for n in range(1, 8):
            for at, steps in enumerate(LISTS):
                for seed in range(3):
                    self.play(n, steps, 100 * at + seed, kinds)
        for kind in (None, InvalidCell, InvalidNumber, Taken, NoRule, NothingToUndo):
            self.assertIn(kind, kinds)

    def test_refusals_of_all_cells(self):
        for n, steps in itertools.product((4, 5, 6, 9), LISTS):
            model, start = Model(n, steps), (1, 2, 1)
            for row, column in walked.cells(n):
                board = ClearBoard(n, steps)
                self.assertEqual(board(*start), n * n)
                model.cells = [start]
                refusal = model.add_all([(row, column, 1)])
                expected = refusal or (None, model.fits()[0])
                self.assertEqual(self.refused(board, row, column, 1), expected, (n, steps, row, column))
                self.assertEqual(board.cells, model.cells)


class Boards(Wrong):
    def test_a_board_without_cells(self):
        for n in (1, 2, 6, GREAT):
            for board in (Board(n), ClearBoard(n, LATIN), ClearBoard(n, [])):
                self.assertEqual((board.size, board.cells, len(board), board.fits), (n, [], 0, (n ** 3, (0, 0, 0))))
                self.assertEqual((board.signs_at(0, n - 1), board.add_all([])), ((0, 1), n ** 3))
                self.check(NothingToUndo, 0, board.undo)
                self.assertEqual(board.cells, [])

    def test_cells_that_were_seen(self):
        for board in (Board(6), ClearBoard(6, []), ClearBoard(6, QUEENS)):
            self.assertEqual(board(1, 1, 4), 36)
            for sign in (4, 3):
                self.check(Taken, (1, 1), board, 1, 1, sign)
                self.check(Taken, (1, 1), board.add_all, [(0, 0, 0), (1, 1, sign)])
            self.assertEqual((board.cells, board.fits[0]), ([(1, 1, 4)], 36))

    def test_signs_that_no_rule_has(self):
        for board in (Board(6), ClearBoard(6, LATIN)):
            board.add_all([(0, 0, 1), (2, 2, 3)])
            self.check(NoRule, 4, board, 4, 4, 4)
            self.check(NoRule, 2, board.add_all, [(0, 1, 3), (4, 4, 5), (2, 4, 2)])
            self.assertEqual(board.cells, [(0, 0, 1), (2, 2, 3)])

    def test_the_last_cell_of_a_list_is_wrong(self):
        right = [(0, 0, 1), (1, 1, 4)]
        for board in (Board(6), ClearBoard(6, LATIN)):
            board(5, 5, 4)
            for kind, value, last in [
                (InvalidCell, (6, 0), (6, 0, 1)), (InvalidNumber, -1, (0, 1, -1)), (InvalidNumber, 6, (0, 1, 6)),
                (Taken, (1, 1), (1, 1, 4)), (Taken, (5, 5), (5, 5, 0)), (NoRule, 0, (2, 2, 0)),
            ]:
                self.check(kind, value, board.add_all, right + [last])
                self.assertEqual((board.cells, len(board), board.fits), ([(5, 5, 4)], 1, fitting(6, [(5, 5, 4)])))

    def test_what_add_all_added_is_taken_back_cell_by_cell(self):
        added = [(0, 0, 1), (1, 1, 4), (0, 1, 3)]
        for board in (Board(6), ClearBoard(6, LATIN)):
            board(5, 0, 0)
            board.add_all(added)
            for left in (2, 1, 0):
                self.assertIsNone(board.undo())
                self.assertEqual(board.cells, [(5, 0, 0)] + added[:left])
                self.assertEqual(board.fits, fitting(6, board.cells))
            board.undo()
            self.check(NothingToUndo, 0, board.undo)
            self.assertEqual(board(5, 0, 3), 36)

    def test_many_cells_are_taken_back(self):
        board = ClearBoard(GREAT, LATIN)
        for at in range(100):
            board(at, 2 * at, 5 * at)
            board.undo()
        self.assertEqual((len(board), board.fits), (0, (GREAT ** 3, (0, 0, 0))))

    def test_which_error_comes_first(self):
        board = ClearBoard(6, LATIN)
        board.add_all([(0, 0, 1), (0, 2, 3), (2, 0, 5)])
        self.check(InvalidCell, (0, 6), board, 0, 6, 9)
        self.check(InvalidNumber, 9, board, 0, 0, 9)
        # (0, 0) itself is taken: that it stands in a row with the 3 in (0, 2) comes behind.
        self.check(Taken, (0, 0), board, 0, 0, 3)
        self.check(Taken, (0, 2), board, 0, 4, 3)
        self.check(NoRule, 2, board, 0, 4, 2)
        self.check(NoRule, 3, board, 4, 4, 3)
        self.assertEqual(len(board), 3)

    def test_the_first_cell_with_the_sign_is_told(self):
        board = ClearBoard(5, QUEENS)
        board.add_all([(0, 0, 0), (1, 3, 0), (2, 1, 0)])
        self.check(Taken, (0, 0), board, 3, 0, 0)
        self.check(Taken, (0, 0), board, 4, 4, 0)
        self.check(Taken, (1, 3), board, 4, 3, 0)
        self.check(Taken, (1, 3), board, 2, 4, 0)
        turned = ClearBoard(5, QUEENS)
        turned.add_all([(2, 1, 0), (1, 3, 0), (0, 0, 0)])
        self.check(Taken, (2, 1), turned, 3, 0, 0)
        self.check(Taken, (2, 1), turned, 2, 4, 0)
        self.check(Taken, (1, 3), turned, 1, 4, 0)
        self.assertEqual(turned(3, 4, 0), board(3, 4, 0))

    def test_lines_around_the_edges(self):
        board = ClearBoard(6, [(2, 3)])
        board(5, 5, 0)
        for cell in [(1, 2), (3, 5), (1, 5), (3, 2), (5, 2)]:
            self.check(Taken, (5, 5), board, *cell, 0)
        self.assertEqual(board(0, 5, 0), 6)

    def test_steps_that_bar_nothing(self):
        for steps in ([], [(0, 0)], [(0, 0)] * 6, [(5, 0)], [(0, -5)]):
            board = ClearBoard(5, steps)
            self.assertEqual([board(0, 0, 2), board(0, 1, 2), board(1, 0, 2), board(4, 4, 2)], [25, 5, 1, 1])

    def test_counted_rules_need_not_be_clear(self):
        board = ClearBoard(5, LATIN)
        self.assertEqual([board(0, 0, 0), board.fits], [25, (25, (0, 0, 0))])
        self.assertEqual([board(1, 1, 0), board.fits], [5, (5, (0, 0, 0))])

    def test_great_sizes(self):
        board = ClearBoard(GREAT, QUEENS)
        self.assertEqual(board(0, 0, 7), GREAT ** 2)
        self.check(Taken, (0, 0), board, 0, GREAT - 1, 7)
        self.check(Taken, (0, 0), board, GREAT // 3, GREAT // 3, 7)
        self.check(Taken, (0, 0), board, GREAT // 3, GREAT - GREAT // 3, 7)
        self.assertEqual(board.add_all([(1, 2, 7), (3, 4, 9)]), 2)
        self.assertEqual(board.signs_at(GREAT - 1, 0), forced(GREAT, board.cells, GREAT - 1, 0))
        self.check(Taken, (0, 0), board, 0, 0, 7)
        self.check(InvalidCell, (GREAT, 0), board, GREAT, 0, 0)
        self.check(InvalidNumber, GREAT, board, 0, 1, GREAT)
        self.check(NoRule, 12, board, 2, 2, 12)
        far = ClearBoard(GREAT, [(4, 0), (0, 5)])
        far(1, 1, 3)
        self.check(Taken, (1, 1), far, 5, 1, 3)
        self.check(Taken, (1, 1), far, 1, GREAT - 4, 3)
        self.assertEqual(far(3, 1, 3), 2 * GREAT)
        self.assertEqual(far(1, 4, 3), 2)

    def test_twelve_cells(self):
        rule = (3 * 10 ** 29 + 1, 7 * 10 ** 28 + 3, 12345)
        for board in (Board(GREAT), ClearBoard(GREAT, [(0, 0), (5, 5), (-5, 3), (1, 0), (0, 1), (2, 4)])):
            cells = [(at * at, GREAT - 1 - 3 * at) for at in range(12)]
            told = [(*cell, walked.sign(rule, GREAT, *cell)) for cell in cells]
            self.assertEqual((board.add_all(told), board.fits), (fitting(GREAT, told)[0], fitting(GREAT, told)))
            self.assertEqual(board.signs_at(*cells[3]), (told[3][2], GREAT))

    def test_wrong_sizes(self):
        for n in (0, -1, -FAR):
            self.check(InvalidSize, n, Board, n)
            self.check(InvalidSize, n, ClearBoard, n, LATIN)
            self.check(InvalidSize, n, ClearBoard, n, [])

    def test_wrong_cells(self):
        for board in (Board(6), ClearBoard(6, LATIN)):
            for cell in [(-1, 0), (0, -1), (6, 0), (0, 6), (FAR, 1), (1, -FAR)]:
                self.check(InvalidCell, cell, board, *cell, 0)
                self.check(InvalidCell, cell, board, *cell, 9)
                self.check(InvalidCell, cell, board.signs_at, *cell)
                self.check(InvalidCell, cell, board.add_all, [(*cell, 0)])
            for sign in (-1, 6, FAR, -FAR):
                self.check(InvalidNumber, sign, board, 5, 5, sign)
            self.assertEqual((board.cells, board(5, 5, 5)), ([], 36))


class Equality(unittest.TestCase):
    def test_boards(self):
        one, other = Board(6), Board(6)
        self.assertIs(one == other, True)
        one.add_all([(0, 0, 1), (1, 1, 4)])
        self.assertIs(one == other, False)
        other.add_all([(1, 1, 4), (0, 0, 1)])
        self.assertIs(one == other, False)
        self.assertIs(one != other, True)
        (other.undo(), other.undo(), other(0, 0, 1), other(1, 1, 4))
        self.assertIs(one == other, True)
        self.assertIs(one != other, False)
        self.assertIs(Board(6) == Board(5), False)
        for value in (6, None, [], "x", one.cells):
            self.assertIs(one == value, False)

    def test_clear_boards(self):
        one, other = ClearBoard(6, LATIN), ClearBoard(6, LATIN)
        self.assertIs(one == other, True)
        for steps in ([], [(1, 0), (0, 1)], LATIN + [(0, 1)], [(0, 1)]):
            self.assertIs(one == ClearBoard(6, steps), False)
        self.assertIs(one == ClearBoard(5, LATIN), False)
        one(0, 0, 1)
        self.assertIs(one == other, False)
        other(0, 0, 1)
        self.assertIs(one == other, True)
        (one(1, 1, 4), one(2, 3, 0), other(2, 3, 0), other(1, 1, 4))
        self.assertIs(one == other, False)
        self.assertIs(one == 6, False)

    def test_a_clear_board_is_no_board(self):
        for steps in ([], LATIN):
            self.assertIs(ClearBoard(6, steps) == Board(6), False)
            self.assertIs(Board(6) == ClearBoard(6, steps), False)
            self.assertIs(Board(6) != ClearBoard(6, steps), True)
        self.assertIsInstance(ClearBoard(6, []), Board)


class Values(unittest.TestCase):
    def test_given_lists_are_neither_changed_nor_kept(self):
        steps, added = [(0, 1), (0, 1)], [(0, 0, 1), (1, 1, 4)]
        board, clear = Board(6), ClearBoard(6, steps)
        (board.add_all(added), clear.add_all(added))
        self.assertEqual((steps, added), ([(0, 1), (0, 1)], [(0, 0, 1), (1, 1, 4)]))
        steps.append((1, 0))
        added.append((0, 1, 2))
        self.assertEqual((board.cells, clear.cells), (added[:2], added[:2]))
        self.assertEqual((clear.steps, clear.fits), ([(0, 1), (0, 1)], (6, (0, 3, 1))))
        (board.undo(), clear.undo())
        self.assertEqual(added, [(0, 0, 1), (1, 1, 4), (0, 1, 2)])

    def test_own_lists_may_be_passed(self):
        board, clear = Board(6), ClearBoard(6, LATIN)
        board.add_all([(0, 0, 1), (1, 1, 4)])
        clear.add_all(board.cells)
        again = ClearBoard(6, clear.steps)
        again.add_all(clear.cells)
        self.assertIs(again == clear, True)
        again.undo()
        self.assertEqual((len(board), len(clear), len(again)), (2, 2, 1))

    def test_returned_lists_are_new(self):
        clear = ClearBoard(6, LATIN)
        clear(0, 0, 1)
        told = [clear.cells, clear.cells, clear.steps, clear.steps]
        self.assertEqual(len({id(value) for value in told}), 4)
        for value in told:
            value.append(None)
        self.assertEqual((clear.cells, clear.steps, len(clear)), ([(0, 0, 1)], LATIN, 1))

    def test_a_board_by_itself(self):
        one, other = Board(6), Board(6)
        one(0, 0, 1)
        self.assertEqual((one.cells, other.cells), ([(0, 0, 1)], []))

    def test_kinds_of_values(self):
        board = Board(6)
        told = [board(0, 0, 1), board.cells[0], board.fits, board.signs_at(1, 1)]
        self.assertEqual([type(value) for value in told], [int, tuple, tuple, tuple])

    def test_by_name(self):
        board = ClearBoard(n=6, steps=LATIN)
        self.assertEqual(board(row=0, column=0, sign=1), 36)
        self.assertEqual(board.add_all(cells=[(1, 1, 4)]), 6)
        self.assertEqual(board.signs_at(row=2, column=2), (1, 6))
        self.assertEqual(Board(n=6)(row=0, column=0, sign=1), 36)
