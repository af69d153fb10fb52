import itertools
import unittest
from math import gcd

from rulesquares.calendars import Calendar
from rulesquares.errors import InvalidNumber, InvalidSize, SquareError
from rulesquares.factors import divisor_list


def meant(number, divisors, extra):
    """The document's own words for what is in a calendar."""
    return lambda n: n >= 1 and (gcd(n, number) in divisors) != (n in extra)


def least_number(number, divisors):
    """The least number by trying one after the other, over all common remainders."""
    for least in itertools.count(1):
        told = {}
        if all(
            told.setdefault(gcd(n, least), gcd(n, number) in divisors) == (gcd(n, number) in divisors)
            for n in range(1, least * number + 1)
        ):
            return least, sorted(d for d in told if told[d])


def subsets(entries):
    for size in range(len(entries) + 1):
        yield from itertools.combinations(entries, size)


GIVEN = [
    (1, [], []), (1, [1], []), (1, [], [7, 30]), (1, [1], [1, 2, 12]), (2, [1], []), (2, [2], [2, 5]),
    (6, [6, 3], []), (6, [1, 6], [1, 6, 35]), (12, [4, 6], [3, 4, 24]), (8, [1, 4], [8]), (9, [3], [1, 3]),
    (30, [1, 2, 15], [60, 61]), (10, [10], [10, 20, 30]), (18, [1, 2, 9, 18], [9, 27]),
]


def samples():
    return [(Calendar(*given), meant(*given)) for given in GIVEN]


class Telling(unittest.TestCase):
    def test_least_number_and_its_divisors(self):
        for number in (1, 2, 4, 6, 7, 8, 9, 12, 18, 30):
            for chosen in subsets(divisor_list(number)):
                calendar = Calendar(number, list(chosen), [])
                with self.subTest(number=number, chosen=chosen):
                    self.assertEqual((calendar.number, calendar.divisors), least_number(number, chosen))
                    self.assertEqual(calendar.extra, [])

    def test_each_prime_power_is_lowered_as_far_as_possible(self):
        even = Calendar(2 ** 39, [2 ** k for k in range(1, 40)], [])
        self.assertEqual((even.number, even.divisors), (2, [2]))
        last = Calendar(2 ** 39, [2 ** 39], [])
        self.assertEqual((last.number, last.divisors), (2 ** 39, [2 ** 39]))
        middle = Calendar(8, [2, 4, 8], [])
        self.assertEqual((middle.number, middle.divisors), (2, [2]))
        gap = Calendar(8, [1, 4], [])
        self.assertEqual((gap.number, gap.divisors), (8, [1, 4]))

    def test_none_and_all(self):
        self.assertEqual(Calendar(60, [], []).number, 1)
        self.assertEqual(Calendar(60, [], []).divisors, [])
        every = Calendar(60, divisor_list(60), [])
        self.assertEqual((every.number, every.divisors), (1, [1]))

    def test_order_and_repeats_make_no_difference(self):
        calendar = Calendar(12, [6, 4, 6, 4, 4], [9, 2, 9, 5, 2])
        self.assertEqual((calendar.number, calendar.divisors, calendar.extra), (12, [4, 6], [2, 5, 9]))

    def test_extra_sizes_stay_when_the_number_is_lowered(self):
        calendar = Calendar(6, [1, 2], [4, 9])
        self.assertEqual((calendar.number, calendar.divisors, calendar.extra), (3, [1], [4, 9]))
        self.assertEqual([n for n in range(1, 12) if n in calendar], [1, 2, 5, 7, 8, 9, 10, 11])

    def test_properties_exist_by_name(self):
        calendar = Calendar(number=2, divisors=[1], extra=[4])
        self.assertEqual((calendar.number, calendar.divisors, calendar.extra), (2, [1], [4]))


class Contents(unittest.TestCase):
    def test_in(self):
        for calendar, inside in samples():
            for n in range(-5, 200):
                answer = n in calendar
                self.assertIs(answer, inside(n), (calendar.number, n))

    def test_in_below_one_is_false(self):
        every = Calendar(1, [1], [])
        for n in (0, -1, -10 ** 61):
            self.assertNotIn(n, every)
            self.assertNotIn(n, ~Calendar(2, [1], [3]))

    def test_in_great_sizes(self):
        odd = Calendar(2, [1], [])
        self.assertIn(10 ** 30 + 1, odd)
        self.assertNotIn(10 ** 30, odd)
        self.assertIn(10 ** 61 + 1, odd)

    def test_total(self):
        for calendar, inside in samples():
            found = 0
            for limit in range(1, 200):
                found += inside(limit)
                self.assertEqual(calendar.total(limit), found)
            self.assertEqual([calendar.total(limit) for limit in (0, -1, -10 ** 61)], [0, 0, 0])

    def test_total_of_great_limits(self):
        self.assertEqual(Calendar(2, [1], [1, 4, 6]).total(limit=10 ** 30), 5 * 10 ** 29 + 1)
        self.assertEqual(Calendar(1, [1], []).total(10 ** 61), 10 ** 61)
        self.assertEqual(Calendar(30, [1], []).total(30 * 10 ** 60), 8 * 10 ** 60)

    def test_at_and_first(self):
        for calendar, inside in samples():
            sizes = [n for n in range(1, 400) if inside(n)]
            if calendar.divisors:
                self.assertEqual([calendar.at(k) for k in range(12)], sizes[:12])
            self.assertEqual(calendar.first(), sizes[0] if sizes else None)

    def test_at_of_finite_calendars(self):
        few = Calendar(1, [], [30, 7])
        self.assertEqual([few.at(0), few.at(k=1), few.first()], [7, 30, 7])
        for k in (2, 3, 10 ** 61):
            with self.assertRaises(InvalidNumber) as caught:
                few.at(k)
            self.assertEqual(caught.exception.value, k)
        with self.assertRaises(InvalidNumber) as caught:
            Calendar(1, [], []).at(0)
        self.assertEqual(caught.exception.value, 0)

    def test_at_below_zero(self):
        for calendar, _ in samples():
            for k in (-1, -10 ** 61):
                with self.assertRaises(InvalidNumber) as caught:
                    calendar.at(k)
                self.assertEqual(caught.exception.value, k)

    def test_at_skips_extra_sizes_at_the_start(self):
        calendar = Calendar(6, [6], [6 * k for k in range(1, 81)])
        self.assertEqual([calendar.first(), calendar.at(1)], [486, 492])

    def test_at_of_great_numbers(self):
        for calendar, inside in samples():
            if calendar.divisors:
                for k in (10 ** 20, 10 ** 61 + 7):
                    size = calendar.at(k)
                    self.assertTrue(inside(size))
                    self.assertEqual(calendar.total(size), k + 1)

    def test_share(self):
        for calendar, _ in samples():
            number = calendar.number
            count = sum(gcd(n, number) in calendar.divisors for n in range(1, number + 1))
            top, bottom = calendar.share()
            self.assertIs(type(calendar.share()), tuple)
            self.assertEqual(top * number, count * bottom)
            self.assertEqual(gcd(top, bottom), 1)
            self.assertGreaterEqual(bottom, 1)
        self.assertEqual(Calendar(1, [], [5]).share(), (0, 1))
        self.assertEqual(Calendar(1, [1], [5]).share(), (1, 1))
        self.assertEqual(Calendar(12, [4, 6], []).share(), (1, 4))


class Joining(unittest.TestCase):
    def check(self, calendar, inside, reach):
        self.assertEqual(
            [n for n in range(-1, reach) if n in calendar], [n for n in range(-1, reach) if inside(n)])
        number, divisors = calendar.number, calendar.divisors
        if number <= 60:
            self.assertEqual((number, divisors), least_number(number, divisors))
        regular = meant(number, divisors, [])
        self.assertEqual(calendar.extra, [n for n in range(1, reach) if inside(n) != regular(n)])

    def test_and_or_against_the_words(self):
        for one, in_one in samples():
            for other, in_other in samples():
                self.check(one & other, lambda n: in_one(n) and in_other(n), 200)
                self.check(one | other, lambda n: in_one(n) or in_other(n), 200)

    def test_not_against_the_words(self):
        for one, inside in samples():
            self.check(~one, lambda n: n >= 1 and not inside(n), 200)
            self.assertEqual(~~one, one)

    def test_outside(self):
        for one, in_one in samples():
            for other, in_other in samples():
                found = [n for n in range(1, 400) if in_one(n) and not in_other(n)]
                self.assertEqual(one.outside(other=other), found[0] if found else None)

    def test_a_joined_number_can_become_less(self):
        coprime = Calendar(6, [1], []) | Calendar(6, [2], [])
        self.assertEqual((coprime.number, coprime.divisors), (3, [1]))
        nothing = Calendar(2, [1], []) & Calendar(2, [2], [])
        self.assertEqual((nothing.number, nothing.divisors, nothing.extra), (1, [], []))

    def test_extra_sizes_meet(self):
        odd = Calendar(2, [1], [1, 4])
        self.assertEqual((odd & Calendar(2, [1], [])).extra, [1])
        self.assertEqual((odd | Calendar(2, [1], [])).extra, [4])
        self.assertEqual((odd | ~odd).extra, [])


class Equality(unittest.TestCase):
    def test_equal_if_and_only_if_the_same_sizes(self):
        for at, (one, _) in enumerate(samples()):
            for at_other, (other, _) in enumerate(samples()):
                same = at == at_other
                self.assertIs(one == other, same)
                self.assertIs(one != other, not same)

    def test_told_in_several_ways(self):
        self.assertEqual(Calendar(6, [3, 6], []), Calendar(3, [3], []))
        self.assertEqual(Calendar(4, [2, 4], [3]), ~Calendar(10, [1, 5], [3]))
        self.assertNotEqual(Calendar(3, [3], []), Calendar(3, [3], [3]))
        self.assertNotEqual(Calendar(3, [3], []), Calendar(3, [1], []))

    def test_equal_to_nothing_else(self):
        class Anything:
            def __eq__(self, other):
                return True

        calendar = Calendar(1, [], [])
        for other in (None, 1, 0, "1 ()", [], (1, [], []), {}, Anything()):
            self.assertFalse(calendar == other)
            self.assertTrue(calendar != other)


class WrongInputs(unittest.TestCase):
    def check(self, kind, value, *given):
        with self.assertRaises(SquareError) as caught:
            Calendar(*given)
        self.assertIs(type(caught.exception), kind)
        self.assertEqual(caught.exception.value, value)

    def test_number(self):
        for number in (0, -1, -6, -10 ** 59):
            self.check(InvalidNumber, number, number, [1], [1])

    def test_divisors(self):
        for divisor in (0, -1, -2, 4, 7, 12, 10 ** 59):
            self.check(InvalidNumber, divisor, 6, [1, 2, divisor, 5], [])

    def test_extra_sizes(self):
        for size in (0, -1, -10 ** 59):
            self.check(InvalidSize, size, 6, [1], [3, 10 ** 6, size, -3])

    def test_which_error_comes_first(self):
        self.check(InvalidNumber, 0, 0, [5, -1], [0])
        self.check(InvalidNumber, -2, -2, [-3], [-4])
        self.check(InvalidNumber, 4, 6, [3, 4, 0], [0])
        self.check(InvalidNumber, 0, 6, [0, 4], [-1])
        self.check(InvalidSize, -1, 6, [3, 6], [4, -1, 0])

    def test_a_greater_size_is_no_error(self):
        self.assertEqual(Calendar(1, [], [10 ** 30]).extra, [10 ** 30])


class Values(unittest.TestCase):
    def test_passed_lists_are_neither_changed_nor_kept(self):
        divisors, extra = [6, 1, 6], [9, 4, 9]
        calendar = Calendar(6, divisors, extra)
        self.assertEqual((divisors, extra), ([6, 1, 6], [9, 4, 9]))
        divisors.append(2)
        extra.clear()
        self.assertEqual((calendar.number, calendar.divisors, calendar.extra), (6, [1, 6], [4, 9]))

    def test_lists_of_a_failed_call_are_not_changed(self):
        divisors, extra = [6, 1, 6], [9, 4, 0]
        with self.assertRaises(InvalidSize):
            Calendar(6, divisors, extra)
        self.assertEqual((divisors, extra), ([6, 1, 6], [9, 4, 0]))

    def test_returned_lists_are_new(self):
        one = Calendar(6, [1, 6], [4])
        others = [one, ~one, ~~one, one & one, one | one]
        lists = [told for calendar in others for told in (calendar.divisors, calendar.extra, calendar.divisors)]
        self.assertEqual(len({id(told) for told in lists}), len(lists))
        one.divisors.append(2)
        one.extra.clear()
        self.assertEqual((one.divisors, one.extra, 2 in one, 4 in one), ([1, 6], [4], False, True))

    def test_answers_stay_after_other_questions(self):
        def answers(calendar):
            return [
                calendar.number, calendar.divisors, calendar.extra, [n for n in range(40) if n in calendar],
                calendar.first(), calendar.total(10 ** 30), calendar.at(99), calendar.share(),
                calendar.outside(Calendar(2, [1], [])), calendar == Calendar(12, [4, 6], [3, 4, 24]),
            ]

        calendar, other = Calendar(12, [4, 6], [3, 4, 24]), Calendar(10, [1], [8])
        before = answers(calendar), answers(other)
        (calendar & other, calendar | other, ~calendar, calendar == other, calendar.outside(other))
        with self.assertRaises(InvalidNumber):
            calendar.at(-1)
        self.assertEqual((answers(calendar), answers(other)), before)
        self.assertEqual((answers(calendar), answers(other)), before)

    def test_methods_stand_in_the_class(self):
        names = ["number", "divisors", "extra", "first", "total", "at", "share", "outside"]
        signs = ["__contains__", "__and__", "__or__", "__invert__", "__eq__"]
        for name in names + signs:
            self.assertIn(name, vars(Calendar))
        for name in names[:3]:
            self.assertIsInstance(vars(Calendar)[name], property)


class Limits(unittest.TestCase):
    """The greatest inputs that the document allows."""

    def setUp(self):
        common = 2 * 3 * 5 * 7 * 11 * 13 * 17 * 19
        self.one = Calendar(
            common * 997, divisor_list(common * 997)[::3], list(range(1, 10 ** 6, 12500)))
        self.other = Calendar(
            common * 991, divisor_list(common * 991)[1::5], list(range(7, 10 ** 6, 12500)))

    def test_many_divisors_and_extra_sizes(self):
        self.assertEqual(self.one.number, 2 * 3 * 5 * 7 * 11 * 13 * 17 * 19 * 997)
        self.assertEqual(len(divisor_list(self.one.number)), 512)
        self.assertEqual(len(self.one.extra), 80)
        k = 10 ** 61 + 3
        size = self.one.at(k)
        self.assertIn(size, self.one)
        self.assertEqual(self.one.total(size), k + 1)
        top, bottom = self.one.share()
        period = self.one.number
        far = 10 ** 20 * period
        self.assertEqual((self.one.total(far + period) - self.one.total(far)) * bottom, period * top)

    def test_common_number_with_many_divisors(self):
        both, some = self.one & self.other, self.one | self.other
        limit = 10 ** 61
        self.assertEqual(
            both.total(limit) + some.total(limit), self.one.total(limit) + self.other.total(limit))
        for size in list(range(1, 3000)) + [10 ** 30 + k for k in range(300)]:
            self.assertIs(size in both, size in self.one and size in self.other)
            self.assertIs(size in some, size in self.one or size in self.other)
        least = next(n for n in range(1, 10 ** 4) if n in self.one and n not in self.other)
        self.assertEqual(self.one.outside(self.other), least)

    def test_many_entries(self):
        told = Calendar(6, [1, 6] * 300, [4, 9] * 40)
        self.assertEqual(told, Calendar(6, [1, 6], [4, 9]))

    def test_great_numbers_with_sizes_far_apart(self):
        rare = Calendar(10 ** 12, [10 ** 12], [])
        self.assertEqual((rare.first(), rare.at(9), rare.share()), (10 ** 12, 10 ** 13, (1, 10 ** 12)))
        self.assertEqual(rare.total(10 ** 30), 10 ** 18)
        prime = Calendar(997 ** 4, [997 ** 4], [])
        self.assertEqual((rare & prime).first(), 10 ** 12 * 997 ** 4)
        self.assertEqual((rare & prime).number, 10 ** 12 * 997 ** 4)
        self.assertEqual(prime.outside(rare), 997 ** 4)
        self.assertEqual(rare & prime, prime & rare)

    def test_long_prime_powers(self):
        powers = Calendar(2 ** 39, [2 ** k for k in range(1, 40, 2)], [])
        self.assertEqual((powers.number, powers.first(), powers.share()[1]), (2 ** 39, 2, 2 ** 39))
