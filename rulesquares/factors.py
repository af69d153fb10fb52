"""Primes and divisors of integers."""


def prime_list(number):
    """Return the ascending list of the primes that divide a number of at least 1."""
    primes = []
    rest = number
    prime = 2
    while prime * prime <= rest:
        if rest % prime == 0:
            primes.append(prime)
        while rest % prime == 0:
            rest = rest // prime
        prime += 1
    if rest > 1:
        primes.append(rest)
    return primes


def divisor_list(number):
    """Return the ascending list of the divisors of a number of at least 1."""
    divisors = [1]
    for prime in prime_list(number):
        without = divisors
        power = prime
        while number % power == 0:
            divisors = divisors + [divisor * power for divisor in without]
            power = power * prime
    return sorted(divisors)


def prime_product(numbers):
    """Return the product of all primes that divide one of some numbers, 0 if one of these is 0."""
    if 0 in numbers:
        return 0
    product = 1
    for number in numbers:
        for prime in prime_list(abs(number)):
            if product % prime != 0:
                product = product * prime
    return product
