import unittest

from helpers import is_plain_integer, odd_values, raised
from polychains.errors import Refused
from polychains.whole import divisors, factors, inverse, is_integer, is_small_prime, power

PRIMES = (2, 3, 5, 7, 11, 13, 17, 19, 23, 29, 31)


class Integers(unittest.TestCase):
    def test_is_integer_for_every_value(self):
        for value in odd_values():
            self.assertIs(is_integer(value), is_plain_integer(value), value)

    def test_is_integer_of_integers(self):
        for value in (0, 1, -1, 2, 10 ** 1000, -10 ** 1000):
            self.assertIs(is_integer(value), True)
        self.assertIs(is_integer(True), False)
        self.assertIs(is_integer(False), False)

    def test_is_small_prime_for_every_value(self):
        for value in odd_values():
            self.assertIs(is_small_prime(value), is_plain_integer(value) and value in PRIMES, value)

    def test_is_small_prime_of_integers(self):
        for value in range(-40, 1100):
            self.assertIs(is_small_prime(value), value in PRIMES, value)
        for value in (2 ** 61 - 1, -2, -31, 10 ** 50 + 31, "2", (2,), [2], True, None):
            self.assertIs(is_small_prime(value), False, value)


class Powers(unittest.TestCase):
    def test_power(self):
        for a in (-3, -1, 0, 1, 2, 7, 10 ** 20):
            expected = 1
            for k in range(40):
                self.assertEqual(power(a, k), expected)
                expected = expected * a

    def test_power_zero_is_one(self):
        for a in (-5, 0, 1, 10 ** 40):
            self.assertEqual(power(a, 0), 1)

    def test_power_ends_for_very_large_exponents(self):
        self.assertEqual(power(1, 10 ** 100), 1)
        self.assertEqual(power(0, 10 ** 100), 0)
        self.assertEqual(power(-1, 10 ** 100), 1)
        self.assertEqual(power(-1, 10 ** 100 + 1), -1)
        self.assertEqual(power(2, 1000), 1 << 1000)


class Divisors(unittest.TestCase):
    def test_divisors_by_trying(self):
        for n in range(1, 700):
            self.assertEqual(divisors(n), tuple(d for d in range(1, n + 1) if n % d == 0), n)

    def test_factors_by_trying(self):
        for n in range(1, 1100):
            found = []
            for p in range(2, n + 1):
                if n % p == 0 and all(p % d for d in range(2, p)):
                    exponent = 0
                    while n % p ** (exponent + 1) == 0:
                        exponent += 1
                    found.append((p, exponent))
            self.assertEqual(factors(n), tuple(found), n)

    def test_larger_numbers(self):
        self.assertEqual(factors(10 ** 30), ((2, 30), (5, 30)))
        self.assertEqual(factors(1000003 ** 2), ((1000003, 2),))
        self.assertEqual(len(divisors(2 ** 20 * 3 ** 5)), 126)
        self.assertEqual(divisors(1), (1,))
        self.assertEqual(factors(1), ())


class Inverses(unittest.TestCase):
    def test_inverse_for_every_prime(self):
        for p in PRIMES:
            for a in (*range(-70, 70), 10 ** 30, 10 ** 30 + 1, -10 ** 30, 3 ** 500, -2 ** 400 - 1):
                if a % p == 0:
                    self.assertEqual(raised(Refused, inverse, a, p).reason, "inverse")
                else:
                    self.assertIn(inverse(a, p), range(1, p))
                    self.assertEqual(inverse(a, p) * a % p, 1)

    def test_multiples_of_the_prime(self):
        for p in PRIMES:
            for a in (0, p, -p, p * 10 ** 50):
                self.assertEqual(raised(Refused, inverse, a, p).reason, "inverse")


if __name__ == "__main__":
    unittest.main()
