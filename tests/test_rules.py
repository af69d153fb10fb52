import unittest

from rulesquares.errors import InvalidCell, InvalidSize, InvalidTurn, SquareError
from rulesquares.rules import Rule
from wrong import Wrong

GREAT = 10 ** 59 + 7
RULES = [
    (0, 0, 0), (1, 0, 0), (0, 1, 0), (2, 1, 0), (1, 2, 3), (-1, 4, -5), (7, -7, 99), (-20, -19, -99),
    (GREAT, -GREAT, GREAT),
]
CELLS = {
    "same": lambda n, r, c: (r, c),
    "quarter": lambda n, r, c: (n - 1 - c, r),
    "half": lambda n, r, c: (n - 1 - r, n - 1 - c),
    "back": lambda n, r, c: (c, n - 1 - r),
    "flip": lambda n, r, c: (n - 1 - r, c),
    "mirror": lambda n, r, c: (r, n - 1 - c),
    "cross": lambda n, r, c: (c, r),
    "anti": lambda n, r, c: (n - 1 - c, n - 1 - r),
}


def told(rule):
    return rule.a, rule.b, rule.d


class Signs(unittest.TestCase):
    def test_properties(self):
        rule = Rule(a=2, b=-1, d=5)
        self.assertEqual((rule.a, rule.b, rule.d), (2, -1, 5))
        self.assertEqual(told(Rule(GREAT, 0, -GREAT)), (GREAT, 0, -GREAT))

    def test_sign_and_square(self):
        for a, b, d in RULES:
            rule = Rule(a, b, d)
            for n in range(1, 9):
                rows = [[(a * r + b * c + d) % n for c in range(n)] for r in range(n)]
                self.assertEqual(rule.square(n), rows)
                self.assertEqual([[rule.sign(n, r, c) for c in range(n)] for r in range(n)], rows)

    def test_greatest_square(self):
        rows = Rule(2, 1, -1).square(n=40)
        self.assertEqual((len(rows), [len(row) for row in rows]), (40, [40] * 40))
        self.assertEqual((rows[0][0], rows[39][39], rows[39][0]), (39, 36, 37))

    def test_sign_at_great_sizes(self):
        n = 10 ** 30
        self.assertEqual(Rule(-1, 0, 0).sign(n=n, row=1, column=0), n - 1)
        self.assertEqual(Rule(GREAT, GREAT, GREAT).sign(n, n - 1, n - 1), -GREAT % n)
        self.assertEqual(Rule(1, 1, 0).sign(10 ** 61, 10 ** 61 - 1, 1), 0)

    def test_slope(self):
        rule = Rule(2, 3, 99)
        steps = {(0, 1): 3, (1, 0): 2, (1, 1): 5, (-1, 1): 1, (0, 0): 0, (5, -5): -5, (-2, -3): -13}
        for step, slope in steps.items():
            self.assertEqual(rule.slope(step), slope)
        self.assertEqual(Rule(GREAT, -1, 0).slope(step=(5, 2)), 5 * GREAT - 2)

    def test_slope_is_what_a_step_adds(self):
        rule = Rule(3, -4, 5)
        for step in [(0, 1), (1, 0), (1, 1), (-1, 1), (2, -3)]:
            added = rule.sign(50, 10 + step[0], 10 + step[1]) - rule.sign(50, 10, 10)
            self.assertEqual((added - rule.slope(step)) % 50, 0)


class Moving(unittest.TestCase):
    def test_shifted(self):
        for a, b, d in RULES:
            for rows, columns in [(0, 0), (1, 0), (0, 1), (3, -2), (-7, 9), (GREAT, -GREAT)]:
                rule = Rule(a, b, d)
                moved = rule.shifted(rows, columns)
                self.assertEqual(told(moved), (a, b, d + a * rows + b * columns))
                for n in (1, 2, 5, 6):
                    for r in range(n):
                        for c in range(n):
                            self.assertEqual(
                                moved.sign(n, r, c), rule.sign(n, (r + rows) % n, (c + columns) % n))
        self.assertEqual(told(Rule(2, 1, 0).shifted(rows=1, columns=2)), (2, 1, 4))

    def test_turned(self):
        for given in RULES:
            rule = Rule(*given)
            for way, cell in CELLS.items():
                turned = rule.turned(way)
                for n in range(1, 8):
                    rows = [[rule.sign(n, *cell(n, r, c)) for c in range(n)] for r in range(n)]
                    self.assertEqual(turned.square(n), rows, (given, way, n))

    def test_turned_to_the_very_rule(self):
        rule = Rule(2, 5, 11)
        found = [told(rule.turned(way=way)) for way in CELLS]
        self.assertEqual(found, [
            (2, 5, 11), (5, -2, 9), (-2, -5, 4), (-5, 2, 6), (-2, 5, 9), (2, -5, 6), (5, 2, 11), (-5, -2, 4)])

    def test_turns_in_turn(self):
        for given in RULES:
            rule = Rule(*given)
            self.assertEqual(rule.turned("quarter").turned("back"), rule)
            self.assertEqual(rule.turned("quarter").turned("quarter"), rule.turned("half"))
            for way in ("half", "flip", "mirror", "cross", "anti"):
                self.assertEqual(rule.turned(way).turned(way), rule)

    def test_wrong_ways(self):
        for way in ("", "Same", "quarter ", "left", "_", "a", "transposed"):
            with self.assertRaises(SquareError) as caught:
                Rule(1, 2, 3).turned(way)
            self.assertIs(type(caught.exception), InvalidTurn)
            self.assertIs(caught.exception.value, way)


class Operators(unittest.TestCase):
    def test_sum_difference_product(self):
        one, other = Rule(1, -2, 3), Rule(10, 20, -30)
        self.assertEqual(told(one + other), (11, 18, -27))
        self.assertEqual(told(one - other), (-9, -22, 33))
        self.assertEqual(told(one * 7), (7, -14, 21))
        self.assertEqual(told(one * 0), (0, 0, 0))
        self.assertEqual(told(one * -GREAT), (-GREAT, 2 * GREAT, -3 * GREAT))
        self.assertEqual((told(one), told(other)), ((1, -2, 3), (10, 20, -30)))

    def test_equality(self):
        self.assertTrue(Rule(1, 2, 3) == Rule(1, 2, 3))
        self.assertFalse(Rule(1, 2, 3) != Rule(1, 2, 3))
        for other in (Rule(0, 2, 3), Rule(1, 0, 3), Rule(1, 2, 0), Rule(2, 1, 3), Rule(3, 2, 1)):
            self.assertFalse(Rule(1, 2, 3) == other)
            self.assertTrue(Rule(1, 2, 3) != other)

    def test_equal_to_nothing_else(self):
        class Anything:
            a, b, d = 1, 2, 3

            def __eq__(self, other):
                return True

        for other in (None, 0, (1, 2, 3), [1, 2, 3], "1r + 2c + 3", Anything()):
            self.assertFalse(Rule(1, 2, 3) == other)
            self.assertTrue(Rule(1, 2, 3) != other)


class WrongInputs(Wrong):
    def test_sizes(self):
        rule = Rule(2, 1, 0)
        for n in (0, -1, -10 ** 61):
            self.check(InvalidSize, n, rule.square, n)
            self.check(InvalidSize, n, rule.sign, n, 0, 0)

    def test_cells(self):
        rule = Rule(2, 1, 0)
        for cell in [(-1, 0), (0, -1), (3, 0), (0, 3), (3, 3), (-10 ** 61, 1), (1, 10 ** 61)]:
            self.check(InvalidCell, cell, rule.sign, 3, *cell)
        self.check(InvalidCell, (10 ** 30, 0), rule.sign, 10 ** 30, 10 ** 30, 0)
        self.assertEqual(rule.sign(3, 2, 2), 0)

    def test_the_size_comes_before_the_cell(self):
        self.check(InvalidSize, 0, Rule(2, 1, 0).sign, 0, -1, 5)
        self.check(InvalidSize, -3, Rule(2, 1, 0).sign, -3, 0, -1)


class Values(unittest.TestCase):
    def test_rows_are_new_lists(self):
        rule = Rule(0, 0, 1)
        first, second = rule.square(3), rule.square(3)
        lists = [first, second] + first + second
        self.assertEqual(len({id(rows) for rows in lists}), 8)
        first[0][0] = 9
        first.pop()
        self.assertEqual(rule.square(3), [[1] * 3] * 3)

    def test_answers_stay_after_other_questions(self):
        rule = Rule(2, 1, 5)

        def answers():
            return told(rule), rule.square(4), rule.sign(9, 3, 4), rule.slope((1, 1)), told(rule.turned("back"))

        before = answers()
        (rule.shifted(4, 5), rule + rule, rule - rule, rule * 3, rule == Rule(1, 1, 1), rule.turned("same"))
        for call in (lambda: rule.sign(3, 3, 3), lambda: rule.square(0), lambda: rule.turned("no")):
            with self.assertRaises(SquareError):
                call()
        self.assertEqual(answers(), before)

    def test_methods_stand_in_the_class(self):
        names = ["a", "b", "d", "sign", "slope", "square", "shifted", "turned"]
        for name in names + ["__add__", "__sub__", "__mul__", "__eq__"]:
            self.assertIn(name, vars(Rule))
        for name in names[:3]:
            self.assertIsInstance(vars(Rule)[name], property)
