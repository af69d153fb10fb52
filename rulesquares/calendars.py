"""Calendars: sets of sizes that are told by greatest common divisors."""

from math import gcd, lcm

from rulesquares.errors import InvalidNumber, InvalidSize
from rulesquares.factors import divisor_list, prime_list


class Calendar:
    """The sizes whose common divisor with a number is chosen, but for some extra sizes."""

    def __init__(self, number, divisors, extra):
        _check(number, divisors, extra)
        given = {divisor: True for divisor in divisors}
        least = _least_number(number, given)
        self._number = least
        self._chosen = {divisor: True for divisor in sorted(given) if least % divisor == 0}
        self._extra = {size: True for size in sorted(set(extra))}

    @property
    def number(self):
        """The least number with which the set can be told."""
        return self._number

    @property
    def divisors(self):
        """The ascending list of the chosen divisors."""
        return list(self._chosen)

    @property
    def extra(self):
        """The ascending list of the extra sizes."""
        return list(self._extra)

    def __contains__(self, x):
        return x >= 1 and self._chooses(x) != (x in self._extra)

    def __and__(self, other):
        number = lcm(self._number, other._number)
        # A divisor of the common number stands for all sizes that have it as their greatest
        # common divisor with that number: both calendars choose all of these, or none.
        divisors = [size for size in divisor_list(number) if self._chooses(size) and other._chooses(size)]
        extra = [
            size for size in self.extra + other.extra
            if (size in self and size in other) != (self._chooses(size) and other._chooses(size))
        ]
        return Calendar(number, divisors, extra)

    def __or__(self, other):
        return ~(~self & ~other)

    def __invert__(self):
        divisors = [divisor for divisor in divisor_list(self._number) if divisor not in self._chosen]
        return Calendar(self._number, divisors, self.extra)

    def __eq__(self, other):
        return (
            isinstance(other, Calendar)
            and self._number == other._number
            and self._chosen == other._chosen
            and self._extra == other._extra
        )

    def first(self):
        """Return the least size, None if there is none."""
        if not self._chosen and not self._extra:
            return None
        return self.at(0)

    def total(self, limit):
        """Return the number of sizes from 1 to the limit."""
        if limit < 1:
            return 0
        return self._counted(self._weights(), limit)

    def at(self, k):
        """Return the size with the number k in ascending order, from 0 on."""
        if k < 0 or (not self._chosen and k >= len(self._extra)):
            raise InvalidNumber(k)
        if not self._chosen:
            return self.extra[k]
        weights = self._weights()
        low = 1
        # Each run of as many sizes as the number has a chosen one, and not more of them
        # than there are extra sizes are missing.
        high = self._number * (k + 1 + len(self._extra))
        while low < high:
            middle = (low + high) // 2
            if self._counted(weights, middle) > k:
                high = middle
            else:
                low = middle + 1
        return low

    def share(self):
        """Return the part of all sizes that is in the calendar, as (top, bottom) in lowest terms."""
        top = sum([weight * (self._number // divisor) for divisor, weight in self._weights()])
        common = gcd(top, self._number)
        return top // common, self._number // common

    def outside(self, other):
        """Return the least size that is not in the other calendar, None if there is none."""
        return (self & ~other).first()

    def _chooses(self, size):
        """Return whether a size would be in the calendar if it had no extra sizes."""
        return gcd(size, self._number) in self._chosen

    def _weights(self):
        """Return a list of pairs (divisor, weight).

        Without extra sizes, the sizes up to a limit are as many as the sum of the weights,
        each times the number of the multiples of its divisor up to the limit.
        """
        divisors = divisor_list(self._number)
        weights = {divisor: 1 if divisor in self._chosen else 0 for divisor in divisors}
        for prime in prime_list(self._number):
            # From the greatest on, so that each divisor meets the smaller one as it was
            # before the step for this prime.
            for divisor in reversed(divisors):
                if divisor % prime == 0:
                    weights[divisor] = weights[divisor] - weights[divisor // prime]
        return [(divisor, weights[divisor]) for divisor in divisors if weights[divisor] != 0]

    def _counted(self, weights, limit):
        """Return the number of sizes from 1 to a limit of at least 1."""
        regular = sum([weight * (limit // divisor) for divisor, weight in weights])
        changes = [-1 if self._chooses(size) else 1 for size in self._extra if size <= limit]
        return regular + sum(changes)


def _check(number, divisors, extra):
    """Raise the error that is due for what a calendar is made from."""
    if number < 1:
        raise InvalidNumber(number)
    for divisor in divisors:
        if divisor < 1 or number % divisor != 0:
            raise InvalidNumber(divisor)
    for size in extra:
        if size < 1:
            raise InvalidSize(size)


def _least_number(number, chosen):
    """Return the least number with which a set of sizes can be told, from any such number."""
    # Finitely many extra sizes do not help here, as each divisor stands for sizes without end;
    # and each prime can be looked at alone, as two numbers that will do share a divisor that will.
    divisors = divisor_list(number)
    least = number
    for prime in prime_list(number):
        while least % prime == 0 and _is_needless(prime, least, divisors, chosen):
            least = least // prime
    return least


def _is_needless(prime, number, divisors, chosen):
    """Return whether a number tells the same set once it is divided by a prime."""
    full = [divisor for divisor in divisors if number % divisor == 0 and number // divisor % prime != 0]
    return all([(divisor in chosen) == (divisor // prime in chosen) for divisor in full])
