"""The rules that are clear on some steps for one size, and lists of them that are paired with each other.

A rule is told by a tuple (a, b) of integers from 0 to n - 1. By a prime that divides n, the rules
other than multiples of the prime have directions, as the steps have: all multiples of a rule have
its direction, and rules of unlike directions are those whose cross number the prime does not divide.
Each step bars one direction.
"""

from rulesquares.checks import check_size
from rulesquares.errors import InvalidNumber, InvalidSize
from rulesquares.factors import prime_list
from rulesquares.lines import is_clear, is_paired
from rulesquares.remainders import met
from rulesquares.rules import Rule


def count_rules(n, steps):
    """Return the number of the rules that are clear on all steps for n."""
    check_size(n)
    many = 1
    rest = n
    for prime in prime_list(n):
        many = many * _rules_by(prime, steps)
        rest = rest // prime
    # Of a and of b, each remainder by the product of the primes stands for so many integers below n.
    return many * rest ** 2


def rules_at(n, steps):
    """Return the ascending list of the rules that are clear on all steps for n."""
    check_size(n)
    return [(a, b) for a in range(n) for b in range(n) if _is_clear_on_all(Rule(a, b, 0), n, steps)]


def most_pairs(n, steps):
    """Return the greatest number of rules that are clear on all steps and paired with each other."""
    _check_pairs(n)
    return min([_directions_by(prime, steps) for prime in prime_list(n)])


def pair_list(n, steps, many):
    """Return a list of so many rules that are clear on all steps and paired with each other."""
    most = most_pairs(n, steps)
    if many < 0 or many > most:
        raise InvalidNumber(many)
    firsts = [(0, 1)] * many
    seconds = [(0, 1)] * many
    for prime in prime_list(n):
        rules = _unlike_rules(prime, steps, many)
        firsts = [met(first, (a, prime)) for first, (a, _) in zip(firsts, rules)]
        seconds = [met(second, (b, prime)) for second, (_, b) in zip(seconds, rules)]
    return [(first[0], second[0]) for first, second in zip(firsts, seconds)]


def judge_pairs(n, steps, told):
    """Return whether a list has only rules that are clear on all steps and paired with each other."""
    _check_pairs(n)
    if not all([0 <= a < n and 0 <= b < n for a, b in told]):
        return False
    rules = [Rule(a, b, 0) for a, b in told]
    if not all([_is_clear_on_all(rule, n, steps) for rule in rules]):
        return False
    return all([is_paired(one, other, n) for at, one in enumerate(rules) for other in rules[:at]])


def _check_pairs(n):
    """Raise InvalidSize(n) if pairs are not asked for at this size."""
    if n <= 1:
        raise InvalidSize(n)


def _is_clear_on_all(rule, n, steps):
    """Return whether a rule is clear on all steps for n."""
    return all([is_clear(rule, n, step) for step in steps])


def _directions_by(prime, steps):
    """Return how many directions by a prime the rules that are clear on all steps have."""
    unlike = []
    for down, right in steps:
        if down % prime == 0 and right % prime == 0:
            return 0
        crosses = [(down * other_right - other_down * right) % prime for other_down, other_right in unlike]
        if 0 not in crosses:
            unlike.append((down, right))
    return prime + 1 - len(unlike)


def _rules_by(prime, steps):
    """Return how many rules with a and b from 0 to a prime minus 1 are clear on all steps for it."""
    multiples = (prime - 1) * _directions_by(prime, steps)
    # The rule (0, 0) has no direction: it is clear only where there is nothing to be clear on.
    return multiples if steps else multiples + 1


def _unlike_rules(prime, steps, many):
    """Return so many rules of unlike directions by a prime that are clear on all steps for it."""
    # Each step bars at most one of these directions, so there is no need to look at more of them.
    enough = min(prime, many + len(steps))
    unlike = [(0, 1)] + [(1, b) for b in range(enough)]
    return [(a, b) for a, b in unlike if _is_clear_on_all(Rule(a, b, 0), prime, steps)][:many]
