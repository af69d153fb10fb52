"""Primes and divisors of an integer of at least 1."""


def prime_list(number):
    """Return the ascending list of the primes that divide a number."""
    primes = []
    rest = number
    prime = 2
    while prime * prime <= rest:
        if rest % prime == 0:
            primes.append(prime)
        while rest % prime == 0:
            rest = rest // prime
        prime += 1
    if rest > 1:
        primes.append(rest)
    return primes


def divisor_list(number):
    """Return the ascending list of the divisors of a number."""
    divisors = [1]
    for prime in prime_list(number):
        without = divisors
        power = prime
        while number % power == 0:
            divisors = divisors + [divisor * power for divisor in without]
            power = power * prime
    return sorted(divisors)
