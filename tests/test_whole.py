"""Integers: algebraparts.whole."""

import unittest

from samples import ODD_VALUES, PRIMES, check_refused, unchanged

from algebraparts.whole import divisors, inverse, is_integer, power


class WholeTest(unittest.TestCase):

    def test_is_integer_for_integers(self):
        for value in (0, 1, -1, 2, -2, 7, 10 ** 5, -10 ** 5, 10 ** 100, -10 ** 100, 2 ** 64):
            self.assertIs(is_integer(value), True)

    def test_is_integer_for_others(self):
        for value in ODD_VALUES:
            wanted = value.__class__ is int
            self.assertIs(is_integer(value), wanted, value)
        for value in (True, False, None, "", "1", [1], (1,), [], (), [[0]], ((0,),)):
            self.assertIs(is_integer(value), False, value)

    def test_power(self):
        for a in (0, 1, -1, 2, -2, 3, -7, 10, 10 ** 20):
            product = 1
            for k in range(40):
                self.assertEqual(power(a, k), product)
                product = product * a
        self.assertEqual(power(0, 0), 1)
        self.assertEqual(power(-5, 0), 1)
        self.assertEqual(power(-5, 1), -5)
        self.assertEqual(power(2, 1000), 1 << 1000)

    def test_power_of_large_exponents_ends(self):
        self.assertEqual(power(1, 10 ** 30), 1)
        self.assertEqual(power(0, 10 ** 30), 0)
        self.assertEqual(power(-1, 10 ** 30), 1)
        self.assertEqual(power(-1, 10 ** 30 + 1), -1)

    def test_divisors(self):
        for n in range(1, 600):
            self.assertEqual(divisors(n), tuple(d for d in range(1, n + 1) if n % d == 0))
        self.assertEqual(divisors(1), (1,))
        self.assertEqual(divisors(97), (1, 97))
        self.assertEqual(divisors(49), (1, 7, 49))
        self.assertEqual(divisors(12), (1, 2, 3, 4, 6, 12))

    def test_divisors_of_large_numbers(self):
        self.assertEqual(divisors(1000003), (1, 1000003))
        self.assertEqual(divisors(1009 * 1009), (1, 1009, 1009 * 1009))
        self.assertEqual(divisors(2 ** 80), tuple(2 ** k for k in range(81)))
        self.assertEqual(divisors(2 * 1000003), (1, 2, 1000003, 2000006))

    def test_inverse(self):
        for p in PRIMES:
            for a in list(range(-50, 51)) + [10 ** 30 + k for k in range(8)] + [-10 ** 30 - k for k in range(8)]:
                if a % p == 0:
                    check_refused(self, "inverse", inverse, a, p)
                else:
                    found = unchanged(self, inverse, a, p)
                    self.assertIs(found.__class__, int)
                    self.assertTrue(1 <= found <= p - 1)
                    self.assertEqual(found * a % p, 1)

    def test_inverse_is_refused(self):
        for p in PRIMES:
            for a in (0, p, -p, 2 * p, -3 * p, p ** 40, -p ** 41):
                check_refused(self, "inverse", inverse, a, p)


if __name__ == "__main__":
    unittest.main()
