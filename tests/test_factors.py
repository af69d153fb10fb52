import unittest

from rulesquares.factors import divisor_list, prime_list


class Factors(unittest.TestCase):
    def test_small_numbers_against_search(self):
        for number in range(1, 400):
            found = [d for d in range(1, number + 1) if number % d == 0]
            self.assertEqual(divisor_list(number), found)
            primes = [p for p in found if p > 1 and all(p % q for q in range(2, p))]
            self.assertEqual(prime_list(number), primes)

    def test_great_numbers(self):
        self.assertEqual(prime_list(10 ** 12), [2, 5])
        self.assertEqual(len(divisor_list(10 ** 12)), 169)
        self.assertEqual(prime_list(997 ** 4), [997])
        self.assertEqual(divisor_list(997 ** 2), [1, 997, 997 ** 2])
        self.assertEqual(prime_list(2 * 1000003), [2, 1000003])
