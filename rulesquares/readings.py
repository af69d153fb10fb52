"""Rules, calendars and squares that are read from their texts."""

from rulesquares.calendars import Calendar
from rulesquares.errors import InvalidNumber, InvalidSize, Unreadable
from rulesquares.rules import Rule
from rulesquares.texts import show_calendar


def read_rule(text):
    """Return the rule that has a text."""
    words = text.split(" + ")
    if len(words) != 3 or not words[0].endswith("r") or not words[1].endswith("c"):
        raise Unreadable(text)
    a, b, d = _integer(words[0][:-1]), _integer(words[1][:-1]), _integer(words[2])
    if None in (a, b, d):
        raise Unreadable(text)
    return Rule(a, b, d)


def read_calendar(text):
    """Return the calendar that has a text."""
    told, _, extra_text = text.partition(" but ")
    number_text, _, divisors_text = told.partition(" (")
    number = _integer(number_text)
    # Whether a bracket stands at the end, and all else stands in its place, is seen when it is shown again.
    divisors = _listed(divisors_text[:-1])
    extra = _listed(extra_text)
    if None in (number, divisors, extra) or not _is_within(number, extra):
        raise Unreadable(text)
    try:
        calendar = Calendar(number, divisors, extra)
    except (InvalidNumber, InvalidSize):
        raise Unreadable(text)
    if show_calendar(calendar) != text:
        raise Unreadable(text)
    return calendar


def read_square(text):
    """Return the list of rows of integers that has a text."""
    rows = [_integers(row_text.split(" ")) for row_text in text.split("; ")]
    if None in rows:
        raise Unreadable(text)
    return rows


def _listed(text):
    """Return the integers with commas between them, None if something else stands there."""
    if text == "":
        return []
    return _integers(text.split(","))


def _integers(words):
    """Return the integers that have some texts, None if one of them is of none."""
    numbers = [_integer(word) for word in words]
    if None in numbers:
        return None
    return numbers


def _integer(text):
    """Return the integer of at most 60 digits that has a text, None if there is none."""
    digits = text[1:] if text.startswith("-") else text
    if not digits.isascii() or not digits.isdigit() or len(digits) > 60:
        return None
    if digits.startswith("0") and text != "0":
        return None
    return int(text)


def _is_within(number, extra):
    """Return whether a calendar with a number and extra sizes is one that is read."""
    if number < 1 or number > 10 ** 12 or max([0] + extra) > 10 ** 6:
        return False
    rest = number
    # Nothing is left for divisors that are no primes: their primes come before them.
    for divisor in range(2, 1001):
        while rest % divisor == 0:
            rest = rest // divisor
    return rest == 1
