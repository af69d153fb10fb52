import unittest
from math import prod

from rulesquares.factors import divisor_list, prime_list, prime_product


class Factors(unittest.TestCase):
    def test_small_numbers_against_search(self):
        for number in range(1, 400):
            found = [d for d in range(1, number + 1) if number % d == 0]
            self.assertEqual(divisor_list(number), found)
            primes = [p for p in found if p > 1 and all(p % q for q in range(2, p))]
            self.assertEqual(prime_list(number), primes)

    def test_great_numbers(self):
        self.assertEqual(prime_list(10 ** 12), [2, 5])
        self.assertEqual(len(divisor_list(10 ** 12)), 169)
        self.assertEqual(prime_list(997 ** 4), [997])
        self.assertEqual(divisor_list(997 ** 2), [1, 997, 997 ** 2])
        self.assertEqual(prime_list(2 * 1000003), [2, 1000003])

    def test_product_of_primes_against_search(self):
        for one in range(-60, 61):
            for other in (-12, -1, 1, 7, 30):
                found = [d for d in range(2, 61) if one % d == 0 or other % d == 0]
                expected = prod([p for p in found if all(p % q for q in range(2, p))])
                self.assertEqual(prime_product([one, other, one]), expected if one != 0 else 0)
        self.assertEqual((prime_product([]), prime_product([5, 0]), prime_product([2 ** 80, 3])), (1, 0, 6))

    def test_given_numbers_stay(self):
        numbers = [12, -5, 12]
        prime_product(numbers)
        self.assertEqual(numbers, [12, -5, 12])
