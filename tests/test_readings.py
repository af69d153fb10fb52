import itertools
import random
import re
import unittest
from math import gcd

from rulesquares.calendars import Calendar
from rulesquares.errors import SquareError, Unreadable
from rulesquares.factors import divisor_list
from rulesquares.readings import read_calendar, read_rule, read_square
from rulesquares.rules import Rule
from rulesquares.texts import show_calendar, show_rule, show_square

FAR = 10 ** 60 - 1
INTEGER = "(0|-?[1-9][0-9]{0,59})"
RULE = re.compile(f"{INTEGER}r \\+ {INTEGER}c \\+ {INTEGER}")
SQUARE = re.compile(f"{INTEGER}([ ]{INTEGER})*(; {INTEGER}([ ]{INTEGER})*)*")
CALENDAR = re.compile(r"([1-9][0-9]*) \(([0-9]+(?:,[0-9]+)*|)\)(?: but ([0-9]+(?:,[0-9]+)*))?")
SIGNS = "0123456789-+rc ,;()but.x~"
WRONG_INTEGERS = [
    "-0", "007", "00", "01", "-01", "+1", "1.", "1e3", "", "-", "--1", "0x1", "1" * 61, "-" + "1" * 61, "a", "1_0"]


def is_told(text):
    """Whether a text of small numbers is that of a calendar as it is told."""
    found = CALENDAR.fullmatch(text)
    if not found:
        return False
    number, divisors, extra = int(found[1]), found[2].split(","), (found[3] or "").split(",")
    for words in (divisors, extra):
        entries = [int(word) for word in words if word]
        if [str(entry) for entry in entries] != [word for word in words if word] or entries != sorted(set(entries)):
            return False
        if 0 in entries:
            return False
    chosen = [int(word) for word in divisors if word]
    if any(number % divisor for divisor in chosen):
        return False
    smaller = [least for least in range(1, number) if number % least == 0]
    return not any(
        all((gcd(d, least) in [gcd(c, least) for c in chosen]) == (d in chosen) for d in divisor_list(number))
        for least in smaller
    )


class Reading(unittest.TestCase):
    def unreadable(self, read, text):
        with self.assertRaises(SquareError) as caught:
            read(text)
        self.assertIs(type(caught.exception), Unreadable)
        self.assertEqual(caught.exception.value, text)

    def changed(self, text, picks):
        """A text in which some signs are left out, put in, or other ones."""
        for _ in range(picks.choice([1, 1, 2])):
            at = picks.randrange(len(text) + 1)
            text = text[:at] + picks.choice(["", picks.choice(SIGNS)]) + text[at + picks.randrange(2):]
        return text


class Rules(Reading):
    def test_what_is_shown_is_read(self):
        entries = [0, 1, -1, 7, -20, 99, 10 ** 59, FAR, -FAR]
        for a, b, d in itertools.product(entries, repeat=3):
            rule = Rule(a, b, d)
            found = read_rule(show_rule(rule))
            self.assertEqual((found.a, found.b, found.d), (a, b, d))
            self.assertEqual(found, rule)

    def test_integers(self):
        for word in ["0", "5", "-5", "10", "1" * 60, "-" + "9" * 60]:
            for text in (f"{word}r + 1c + 2", f"1r + {word}c + 2", f"1r + 2c + {word}"):
                self.assertEqual(show_rule(read_rule(text)), text)
        for word in WRONG_INTEGERS + [" 1", "1 "]:
            for text in (f"{word}r + 1c + 2", f"1r + {word}c + 2", f"1r + 2c + {word}"):
                self.unreadable(read_rule, text)

    def test_other_texts(self):
        for text in [
            "", " ", "r", "r + c + ", "2r + 1c", "2r + 1c + 0 + 0", "2r+1c+0", "2r +1c + 0", "2r  + 1c + 0",
            "2r + 1c +  0", " 2r + 1c + 0", "2r + 1c + 0 ", "2r + 1c - 0", "2c + 1r + 0", "2 + 1c + 0", "2r + 1 + 0",
            "2r + 1c + 0d",
            "2R + 1c + 0", "2r + 1c + 0\n", "2rr + 1c + 0", "2r + 1cc + 0", "0 1; 2", "2 (1)", "r2 + c1 + 0",
            "2r + 1c + ",
            "2r + 1c + 0 + ", " + 2r + 1c + 0", "x" * 20000, "1" * 20000, "1r + 1c + " + "1" * 19990, " + " * 6666,
        ]:
            self.unreadable(read_rule, text)

    def test_changed_texts(self):
        picks = random.Random(21)
        counts = [0, 0]
        for _ in range(6000):
            rule = Rule(picks.randint(-20, 20), picks.randint(-20, 20), picks.randint(-9, 9))
            text = self.changed(show_rule(rule), picks)
            counts[bool(RULE.fullmatch(text))] += 1
            if RULE.fullmatch(text):
                self.assertEqual(show_rule(read_rule(text)), text)
            else:
                self.unreadable(read_rule, text)
        self.assertGreater(min(counts), 500)


class Squares(Reading):
    def test_what_is_shown_is_read(self):
        picks = random.Random(22)
        entries = [0, 1, -1, 12, -305, 10 ** 59, FAR, -FAR]
        for _ in range(300):
            rows = [[picks.choice(entries) for _ in range(picks.randint(1, 6))] for _ in range(picks.randint(1, 6))]
            self.assertEqual(read_square(show_square(rows)), rows)
        for n in (1, 2, 3, 40):
            rows = Rule(2, 1, 0).square(n)
            self.assertEqual(read_square(show_square(rows)), rows)

    def test_integers(self):
        for word in ["0", "5", "-5", "10", "1" * 60, "-" + "9" * 60]:
            for text in (word, f"{word} 1", f"1 {word}", f"1; {word}", f"{word}; 1 2", f"1 2; 3 {word} 4; 5"):
                self.assertEqual(show_square(read_square(text)), text)
        for word in WRONG_INTEGERS:
            for text in (word, f"{word} 1", f"1 {word}", f"1; {word}", f"{word}; 1 2", f"1 2; 3 {word} 4; 5"):
                self.unreadable(read_square, text)

    def test_other_texts(self):
        for text in [
            "", " ", ";", "; ", "1;", "1; ", "; 1", "1;2", "1 ;2", "1 ; 2", "1;  2", "1  2", " 1", "1 ", "1,2",
            "1; ; 2",
            "1 2;3", "[[1]]", "1\n2", "2r + 1c + 0", "2 (1)", "1 " * 10000, "1; " * 6666, "1" * 20000, ";" * 20000,
            " " * 20000,
            "1 " * 9999 + "x",
        ]:
            self.unreadable(read_square, text)

    def test_long_texts(self):
        for rows in ([[7] * 10000], [[-1] * 3] * 2000, [[5]] * 6667, [[FAR] * 300], [[-FAR]] * 300):
            text = show_square(rows)[:20000]
            text = text[:text.rindex(";")] if len(text) == 20000 and ";" in text else text
            self.assertGreater(len(text), 18000)
            self.assertEqual(show_square(read_square(text)), text)

    def test_rows_of_different_lengths(self):
        self.assertEqual(read_square("1; 2 3; 4 5 6; -7"), [[1], [2, 3], [4, 5, 6], [-7]])
        self.assertEqual(read_square("0"), [[0]])

    def test_changed_texts(self):
        picks = random.Random(23)
        counts = [0, 0]
        for _ in range(6000):
            rows = [[picks.randint(-12, 12) for _ in range(picks.randint(1, 3))] for _ in range(picks.randint(1, 3))]
            text = self.changed(show_square(rows), picks)
            counts[bool(SQUARE.fullmatch(text))] += 1
            if SQUARE.fullmatch(text):
                self.assertEqual(show_square(read_square(text)), text)
                self.assertEqual(read_square(text), [[int(word) for word in row.split()] for row in text.split(";")])
            else:
                self.unreadable(read_square, text)
        self.assertGreater(min(counts), 500)

    def test_returned_lists_are_new(self):
        first, second = read_square("1 2; 1 2; 3"), read_square("1 2; 1 2; 3")
        lists = [first, second] + first + second
        self.assertEqual(len({id(rows) for rows in lists}), 8)
        first[0].append(9)
        first.pop()
        self.assertEqual(read_square("1 2; 1 2; 3"), second)


class Calendars(Reading):
    def test_what_is_shown_is_read(self):
        picks = random.Random(24)
        for _ in range(600):
            number = picks.choice([1, 2, 3, 4, 6, 8, 9, 12, 30, 36, 60, 97, 210])
            divisors = [d for d in divisor_list(number) if picks.random() < 0.5]
            extra = [picks.randint(1, 40) for _ in range(picks.choice([0, 0, 1, 3, 6]))]
            some = Calendar(number, divisors, extra)
            found = read_calendar(show_calendar(some))
            self.assertEqual(found, some)
            self.assertEqual(show_calendar(found), show_calendar(some))

    def test_edges(self):
        for given in [
            (1, [], []), (1, [1], []), (1, [], [1]), (1, [1], [10 ** 6]), (10 ** 12, [10 ** 12], []),
            (997 ** 4, [1], [5]), (2 ** 39, [2 ** 39, 1], [1]),
            (2 * 3 * 5 * 7 * 11 * 13 * 17 * 19 * 997, [1, 997], list(range(1, 81))),
        ]:
            some = Calendar(*given)
            self.assertEqual(read_calendar(show_calendar(some)), some)
        self.assertEqual(read_calendar("3 (1) but 4,9"), Calendar(6, [1, 2], [4, 9]))

    def test_texts_that_tell_a_calendar_otherwise(self):
        for text in [
            "6 (1,2)", "6 (1,2) but 4,9", "4 (1)", "2 (1,2)", "12 (1,2,3,4,6,12)", "2 ()", "9 (3,9)", "12 (1,5)",
            "12 (5)", "12 (1,1,4)", "12 (4,1)", "12 (1,4,4)", "3 (1) but 9,4", "3 (1) but 4,4", "3 (1) but 4,4,9",
            "0 ()",
            "-3 (1)",
            "3 (-1)", "3 (0)", "3 (1) but 0", "3 (1) but -4", "3 (1) but 4,-9",
        ]:
            self.unreadable(read_calendar, text)

    def test_numbers_that_are_too_great(self):
        for number in (997 ** 4, 10 ** 12, 991 * 997, 2 ** 39):
            self.assertEqual(read_calendar(f"{number} ({number})"), Calendar(number, [number], []))
        great = [10 ** 12 + 10 ** 6, 2 ** 40, 997 ** 5, 10 ** 59, 997 ** 20, FAR]
        for number in great + [1009, 2 * 1009, 1009 * 1013, 999999999989]:
            self.unreadable(read_calendar, f"{number} ({number})")
            self.unreadable(read_calendar, f"{number} (1)")
        for size in (10 ** 6 + 1, 10 ** 7, FAR, 10 ** 60):
            self.unreadable(read_calendar, f"3 (1) but {size}")
            self.unreadable(read_calendar, f"3 (1) but 4,{size}")
        self.assertEqual(read_calendar("3 (1) but 4,1000000").extra, [4, 10 ** 6])

    def test_more_than_the_limits_of_what_is_passed(self):
        number = 963761198400
        divisors = divisor_list(number)
        self.assertEqual(len(divisors), 6720)
        some = Calendar(number, [d for d in divisors if d % 1001 == 1 or d == number], [])
        text = show_calendar(some)
        self.assertLess(len(text), 20000)
        self.assertEqual(show_calendar(read_calendar(text)), text)
        extra = ",".join([str(size) for size in range(1, 4200)])[:19900].rpartition(",")[0]
        text = f"{number} ({number}) but {extra}"
        self.assertEqual(show_calendar(read_calendar(text)), text)
        told = ",".join([str(d) for d in divisor_list(720720)[1:]])
        self.unreadable(read_calendar, f"720720 ({told})")

    def test_integers(self):
        for word in WRONG_INTEGERS:
            for text in (f"{word} (1)", f"3 ({word})", f"3 (1,{word})"):
                self.unreadable(read_calendar, text)
            for text in (f"3 (1) but {word}", f"3 (1) but {word},9", f"3 (1) but 4,{word}"):
                self.unreadable(read_calendar, text)

    def test_other_texts(self):
        for text in [
            "", " ", "1", "1 ", "1 (", "1 )", "1()", "1 ( )", "1 (1", "1 1)", "1 (1)(", "1 (1) ", " 1 (1)", "1  (1)",
            "2 (1) but", "2 (1) but ", "2 (1)but 4", "2 (1) but4", "2 (1)  but 4", "2 (1) but  4", "2 (1) but 4 ",
            "2 (1) but 4, 6", "2 (1) But 4", "2 (1) but 4;6", "2 (1) but 4 but 6", "2 (1) but (4)", "2 (1,)",
            "2 (,1)", "12 (1, 4)", "12 (1 4)", "2 [1]", "2 (1] but 4", "2 (1( but 4", "2r + 1c + 0", "0 1; 2",
            "() but 4", " (1)", "but", " but ", " ()", "2 (1) but 4,", "2 (1) but ,4", "2 (1)4", "1" * 20000,
            "1 (" + "1," * 9990 + "1)", "(" * 20000, "3 (1) but " + "4," * 9990 + "4", "3 (1)" + " but 4" * 3000,
        ]:
            self.unreadable(read_calendar, text)

    def test_changed_texts(self):
        picks = random.Random(25)
        counts = [0, 0]
        for _ in range(6000):
            number = picks.choice([1, 2, 3, 4, 6, 12, 30])
            divisors = [d for d in divisor_list(number) if picks.random() < 0.5]
            some = Calendar(number, divisors, [picks.randint(1, 20) for _ in range(picks.choice([0, 1, 2]))])
            text = self.changed(show_calendar(some), picks)
            counts[is_told(text)] += 1
            if is_told(text):
                self.assertEqual(show_calendar(read_calendar(text)), text)
            else:
                self.unreadable(read_calendar, text)
        self.assertGreater(min(counts), 500)


class Values(Reading):
    def test_by_name(self):
        self.assertEqual(read_rule(text="2r + -1c + 0"), Rule(2, -1, 0))
        self.assertEqual(read_calendar(text="2 (1)"), Calendar(2, [1], []))
        self.assertEqual(read_square(text="0 1; -5"), [[0, 1], [-5]])

    def test_what_was_read_answers_as_others(self):
        rule, sizes = read_rule("2r + 1c + 0"), read_calendar("6 (1) but 1,4")
        self.assertEqual(rule.square(3), [[0, 1, 2], [2, 0, 1], [1, 2, 0]])
        self.assertEqual([n for n in range(1, 12) if n in sizes], [4, 5, 7, 11])
        (sizes.extra.append(9), sizes.divisors.clear())
        self.unreadable(read_calendar, "6 (1) but 4,1")
        self.assertEqual(show_calendar(sizes), "6 (1) but 1,4")
