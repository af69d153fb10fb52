"""Which least changes mend a rule, and whether claims for all sizes of a calendar hold."""

from math import gcd

from rulesquares.factors import prime_product
from rulesquares.rules import Rule


def mends(rule, steps, sizes, most):
    """Return the rules nearest to a rule that are clear on all steps for all sizes of a calendar."""
    for change in range(most + 1):
        found = [(a, b) for a, b in _changed(rule, change) if _is_clear_for_all(Rule(a, b, 0), steps, sizes)]
        if found:
            return found
    return []


def best(rule, steps, most):
    """Return the rules near to a rule that are not clear for only a part of the sizes of another one."""
    near = sorted([told for change in range(most + 1) for told in _changed(rule, change)])
    barred = [prime_product([Rule(a, b, 0).slope(step) for step in steps]) for a, b in near]
    return [
        told for told, primes in zip(near, barred)
        if not any([_is_proper_part(primes, other) for other in barred])
    ]


def holds(told, sizes):
    """Return whether all sizes of a calendar are among those for which something is so."""
    return refuted(told, sizes) is None


def refuted(told, sizes):
    """Return the least size of a calendar for which something is not so, None if there is none."""
    return sizes.outside(told)


def _changed(rule, change):
    """Return the ascending list of all (a, b) with this sum of the differences from those of a rule."""
    changes = range(-change, change + 1)
    return [(rule.a + one, rule.b + other) for one in changes for other in changes if abs(one) + abs(other) == change]


def _is_clear_for_all(rule, steps, sizes):
    """Return whether a rule is clear on all steps for all sizes of a calendar."""
    return all([_is_coprime_to_all(rule.slope(step), sizes) for step in steps])


def _is_coprime_to_all(slope, sizes):
    """Return whether a slope has only 1 as a common divisor with each size of a calendar."""
    # A chosen divisor stands for sizes without end, among them multiples of any prime that does not
    # divide the calendar's number: more of them than extra sizes can take away.
    primes = prime_product([slope])
    if sizes.divisors and (primes == 0 or sizes.number % primes != 0):
        return False
    needed = sizes.divisors + [size for size in sizes.extra if size in sizes]
    return all([gcd(slope, size) == 1 for size in needed])


def _is_proper_part(primes, other):
    """Return whether the sizes that have none of some primes are a proper part of those without others.

    The primes are told by their product; 0 stands for all primes, which leave the size 1 alone.
    """
    return primes != other and other != 0 and primes % other == 0
