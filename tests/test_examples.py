"""The examples of the document, as they are written there."""

import doctest
import unittest

CALENDARS = """
>>> from rulesquares.calendars import Calendar
>>> odd, third = Calendar(2, [1], []), Calendar(6, [6, 3], [])
>>> [third.number, third.divisors, 9 in (odd & third), (odd | third).first(), (~odd).at(4), odd.outside(third), (odd & third).share(), odd.total(10 ** 30)]
[3, [3], True, 1, 10, 1, (1, 6), 500000000000000000000000000000]
>>> some = Calendar(2, [1], [1, 4])
>>> [1 in some, 4 in some, some.first(), (some & ~odd).extra, some == odd, Calendar(1, [], [7]).total(100), Calendar(1, [], [7]).outside(odd)]
[False, True, 3, [4], False, 1, None]
"""

RULES = """
>>> from rulesquares.rules import Rule
>>> rule = Rule(2, 1, 0)
>>> [rule.square(3), rule.sign(10 ** 30, 10 ** 29, 5), rule.slope((-1, 1)), rule.turned("quarter") == Rule(1, -2, -2), rule.turned("quarter").square(3)]
[[[0, 1, 2], [2, 0, 1], [1, 2, 0]], 200000000000000000000000000005, -1, True, [[1, 2, 0], [2, 0, 1], [0, 1, 2]]]
>>> [rule.shifted(1, 1).d, (rule + Rule(1, 1, 1) * 2) == Rule(4, 3, 2), (rule - rule).square(2)]
[3, True, [[0, 0], [0, 0]]]
"""


class Examples(unittest.TestCase):
    def check(self, text):
        example = doctest.DocTestParser().get_doctest(text, {}, "DOC.md", None, 0)
        told = []
        result = doctest.DocTestRunner().run(example, out=told.append)
        self.assertGreater(result.attempted, 0)
        self.assertEqual(result.failed, 0, "".join(told))

    def test_calendars(self):
        self.check(CALENDARS)

    def test_rules(self):
        self.check(RULES)
