"""[0.1], [0.5], [1.3]: integers, residues, names."""

import unittest

from tests.plain import NO_INTEGERS, NO_PRIMES, PRIMES, SIXTY, SIXTY_ONE, Refusals, wrong
from twinsheets.base import numbers
from twinsheets.base.numbers import factors, is_integer, is_name, is_prime, is_residue, least_nonsquare
from twinsheets.base.numbers import residue_inverse, residue_root
from twinsheets.errors import InvalidCount, InvalidPrime, TooMany


class NumbersTest(Refusals, unittest.TestCase):
    def test_constants(self):
        self.assertEqual(numbers.PRIMES, PRIMES)
        self.assertEqual(numbers.MAX_FACTORED, 10 ** 12)
        self.assertEqual(numbers.MAX_LETTERS, 8)

    def test_is_integer(self):
        for value in (0, 1, -1, 3, 10 ** 59, -10 ** 59, SIXTY, -SIXTY):
            self.assertIs(is_integer(value), True)
        for value in NO_INTEGERS:
            self.assertIs(is_integer(value), False)

    def test_is_prime(self):
        for value in range(-40, 100):
            self.assertIs(is_prime(value), value in PRIMES)
        for value in NO_PRIMES:
            self.assertIs(is_prime(value), False)

    def test_is_residue(self):
        for prime in PRIMES:
            for value in range(-3, prime + 3):
                self.assertIs(is_residue(prime, value), 0 <= value < prime)
            for value in NO_INTEGERS:
                self.assertIs(is_residue(prime, value), False)
        for prime in NO_PRIMES:
            self.refused(is_residue, (prime, 1), InvalidPrime)
            self.refused(is_residue, (prime, "x"), InvalidPrime)

    def test_is_name(self):
        for value in ("a", "z", "quint", "abcdefgh", "zzzzzzzz"):
            self.assertIs(is_name(value), True)
        for value in ("", "abcdefghi", "Quint", "a b", "a1", "1", "_", "a_", "`", "{", "a\n", " a", "\u00e9"):
            self.assertIs(is_name(value), False)
        for value in NO_INTEGERS + (0, 5, ("a",), ["a"], {"a": 1}):
            # Of these values just "x" is a name.
            if value != "x":
                self.assertIs(is_name(value), False)

    def test_inverses(self):
        for prime in PRIMES:
            for number in range(1, prime):
                inverse = residue_inverse(prime, number)
                self.assertIn(inverse, range(1, prime))
                self.assertEqual(number * inverse % prime, 1)

    def test_roots(self):
        for prime in PRIMES:
            squares = {root * root % prime for root in range(prime)}
            self.assertEqual(len(squares), (prime + 1) // 2)
            for number in range(prime):
                found = [root for root in range(prime) if root * root % prime == number]
                self.assertEqual(residue_root(prime, number), found[0] if found else None)
            self.assertEqual(least_nonsquare(prime), min(set(range(prime)) - squares))

    def test_factors(self):
        self.assertEqual(factors(1), {})
        for number in (2, 3, 31, 37, 999983, 999999000001, 999999999989):
            self.assertEqual(factors(number), {number: 1})
        self.assertEqual(factors(10 ** 12), {2: 12, 5: 12})
        self.assertEqual(factors(999983 ** 2), {999983: 2})
        self.assertEqual(factors(2 ** 39), {2: 39})
        self.assertEqual(factors(2 * 3 ** 4 * 7 ** 2 * 101 * 9973), {2: 1, 3: 4, 7: 2, 101: 1, 9973: 1})

    def test_factors_of_all_small_numbers(self):
        for number in range(1, 3000):
            found = factors(number)
            product = 1
            for prime, many in found.items():
                self.assertTrue(all(prime % low for low in range(2, prime)))
                self.assertGreaterEqual(many, 1)
                product *= prime ** many
            self.assertEqual(product, number)
            self.assertEqual(list(found), sorted(found))

    def test_factors_keep_no_state(self):
        factors(12)[5] = 7
        self.assertEqual(factors(12), {2: 2, 3: 1})

    def test_wrong_factors(self):
        for number in (0, -1, -12, -SIXTY) + NO_INTEGERS:
            self.refused(factors, (number,), InvalidCount, value=number)
        for number in (10 ** 12 + 1, 10 ** 13, SIXTY):
            self.refused(factors, (number,), TooMany, limit=10 ** 12)

    def test_wrong_arguments(self):
        primes = wrong(NO_PRIMES, InvalidPrime)
        self.refusals(residue_inverse, (7, 3),
                      (primes, wrong((0, 7, -1, 8, SIXTY) + NO_INTEGERS, InvalidCount, "value")))
        self.refusals(residue_root, (7, 3), (primes, wrong((7, -1, 8, SIXTY) + NO_INTEGERS, InvalidCount, "value")))
        self.refusals(least_nonsquare, (7,), (primes,))

    def test_sixty_digits(self):
        self.assertEqual((len(str(SIXTY)), len(str(SIXTY_ONE))), (60, 61))


if __name__ == "__main__":
    unittest.main()
