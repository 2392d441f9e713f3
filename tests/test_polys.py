"""[0.2], [0.4], [0.8], [2.1] to [2.4]: polynomials."""

import operator
import unittest

from tests import plain
from tests.plain import NO_INTEGERS, NO_POLYS, NO_PRIMES, PRIMES, SIXTY, SIXTY_ONE, Refusals, wrong
from twinsheets.errors import InvalidCount, InvalidOperation, InvalidPoly, InvalidPrime, ParseError
from twinsheets.poly import polys
from twinsheets.poly.polys import Poly, poly_at

OPERATORS = (operator.add, operator.sub, operator.mul, operator.floordiv, operator.mod)
NO_ENTRIES = ((0,), (1, 0), (0, 0), (3,), (1, -1, 1), (1, True), (True,), (False, 1), (1, None), (None,), ("1",), "1",
              "", None, True, False, 0, 1, SIXTY, [1], [], {0: 1}, {}, ((1,),), ([1],), (1, SIXTY_ONE), (SIXTY, 1),
              Poly(3, (1,)), (Poly(3, (1,)),), InvalidPoly("x"), (1,) * 1001, (0,) * 1000 + (1,))
NO_TEXTS = ("", "+", "x+", "+x", "x++1", "1+x", "x+x^2", "x+x", "x^2+x^2", "2+1", "1+1", "0+1", "x+0", "0x", "0x^2",
            "x^2+0x", "1x", "1x^2", "x^1", "x^0", "2x^0", "x^02", "x^2+01", "00", "01", "02x", "3", "3x", "4x^2", "-x",
            "-1", "x-1", "x^-1", " x", "x ", "x + 1", "x\n", "\n", "X", "y", "x^2+y", "xx", "2xx", "x2", "x^", "^2",
            "x^2^2", "x*x", "2*x", "x^x", "2.0", "x^2.", "x^1000", "x^9999", "x^" + "9" * 3000, "9" * 4000, "1" * 4000,
            "x^+2", "x+ 1", "+1", "0+0", "x^3+x^3+x", "(x)", "None", "\t", "x" * 4000, "+" * 4000, "0x1", "1_0",
            None, True, False, 0, 1, 5, (), ("x",), ["x"], {}, {"x": 1}, SIXTY, Poly(3, (0, 1)), InvalidPoly("x"))


class ObjectTest(Refusals, unittest.TestCase):
    def test_constant(self):
        self.assertEqual(polys.MAX_ENTRIES, 1000)

    def test_what_is_kept(self):
        for p in PRIMES:
            for number in list(range(120)) + [p ** 5 - 1, p ** 6, p ** 20 + 1]:
                entries = plain.at(p, number)
                poly = Poly(p, entries)
                self.assertEqual((poly.prime, poly.entries, poly.number), (p, entries, number))
                self.assertEqual(poly.degree, len(entries) - 1)
                self.assertEqual(poly.lead, entries[-1] if entries else 0)
                self.assertIs(poly.is_zero, number == 0)
                self.assertIs(poly.is_monic, bool(entries) and entries[-1] == 1)
                self.assertEqual(poly_at(p, number), poly)

    def test_zero(self):
        zero = Poly(7, ())
        self.assertEqual((zero.degree, zero.lead, zero.number, str(zero)), (-1, 0, 0, "0"))
        self.assertEqual(poly_at(7, 0), zero)
        self.assertEqual(Poly.read(7, "0"), zero)

    def test_many_entries(self):
        longest = Poly(31, (30,) * 1000)
        self.assertEqual((longest.degree, longest.lead), (999, 30))
        self.assertEqual(longest.number, 31 ** 1000 - 1)
        self.assertEqual(Poly.read(31, str(longest)), longest)
        self.refused(Poly, (31, (30,) * 1001), InvalidPoly)
        further = longest * Poly(31, (0, 1))
        self.assertEqual(len(further.entries), 1001)
        self.refused(Poly.read, (31, str(further)), ParseError, index=0)

    def test_what_the_package_made_longer_is_used_on(self):
        long = Poly(5, (0,) * 999 + (1,))
        twice = long * long
        self.assertEqual((twice.degree, str(twice)), (1998, "x^1998"))
        self.assertEqual(twice // long, long)
        self.assertEqual(twice[1998], 1)
        self.assertEqual(twice(2), pow(2, 1998, 5))
        self.assertEqual(twice + Poly(5, ()), twice)
        self.refused(twice.reversed_to, (1998,), InvalidCount, value=1998)

    def test_numbers_of_sixty_digits(self):
        for p in (3, 31):
            self.assertEqual(poly_at(p, SIXTY).number, SIXTY)
            self.assertEqual(poly_at(p, SIXTY).entries, plain.at(p, SIXTY))

    def test_equal(self):
        one = Poly(5, (1, 2))
        self.assertTrue(one == Poly(5, (1, 2)))
        self.assertFalse(one != Poly(5, (1, 2)))
        for value in NO_POLYS + ((1, 2), Poly(5, (1, 3)), Poly(7, (1, 2)), Poly(5, (1, 2, 1)), Poly(5, ())):
            self.assertIs(one == value, False)
            self.assertIs(one != value, True)
            self.assertIs(value == one, False)
        self.assertFalse(Poly(3, ()) == Poly(5, ()))

    def test_not_iterated_over(self):
        poly = Poly(3, (1, 2))
        for call in (iter, list, tuple, sum, lambda poly: 1 in poly, len):
            self.assertRaises(TypeError, call, poly)

    def test_wrong_arguments(self):
        self.refusals(Poly, (3, (1, 2)), (wrong(NO_PRIMES, InvalidPrime), wrong(NO_ENTRIES, InvalidPoly)))
        self.refusals(poly_at, (3, 7), (wrong(NO_PRIMES, InvalidPrime),
                                        wrong((-1, -SIXTY) + NO_INTEGERS, InvalidCount, "value")))
        self.assertEqual(Poly(5, (3,)).lead, 3)
        # The number of a polynomial that the package made can be too long to be passed.
        number = Poly(3, (1,) * 200).number
        self.refused(poly_at, (3, number), InvalidCount, value=number)


class TextTest(Refusals, unittest.TestCase):
    def test_texts(self):
        told = {"0": (), "1": (1,), "2": (2,), "x": (0, 1), "2x": (0, 2), "x+1": (1, 1), "2x+2": (2, 2),
                "x^2": (0, 0, 1), "2x^3+x+1": (1, 1, 0, 2), "x^10+2x^9+x^2+2": (2, 0, 1) + (0,) * 6 + (2, 1),
                "x^999": (0,) * 999 + (1,)}
        for text, entries in told.items():
            self.assertEqual(str(Poly(3, entries)), text)
            self.assertEqual(Poly.read(3, text).entries, entries)
        self.assertEqual(str(Poly(31, (30, 10, 21))), "21x^2+10x+30")

    def test_there_and_back(self):
        for p in PRIMES:
            for number in list(range(200)) + [p ** 9 + k for k in range(-20, 20)]:
                poly = poly_at(p, number)
                again = Poly.read(p, str(poly))
                self.assertEqual(again, poly)
                self.assertIs(type(again), Poly)

    def test_no_texts(self):
        for text in NO_TEXTS:
            with self.subTest(text=text):
                self.refused(Poly.read, (3, text), ParseError, index=0)

    def test_entries_that_are_no_residues(self):
        for p in PRIMES:
            self.assertEqual(Poly.read(p, f"{p - 1}x+{p - 1}").entries, (p - 1, p - 1))
            for text in (f"{p}", f"{p}x", f"x+{p}", f"{p}x^2+1", f"{p + 1}", "100", "999x"):
                self.refused(Poly.read, (p, text), ParseError, index=0)

    def test_all_short_texts(self):
        told = {}
        for number in range(3 ** 4):
            told[str(poly_at(3, number))] = number
        signs = "x^+0123"
        texts = [""]
        for _ in range(4):
            texts = [text + sign for text in texts for sign in signs]
            for text in texts:
                if text in told:
                    self.assertEqual(Poly.read(3, text).number, told[text])
                elif not (text.startswith(("x^", "2x^")) and text.split("^")[1].isdigit()):
                    self.refused(Poly.read, (3, text), ParseError, index=0)

    def test_wrong_arguments(self):
        self.refusals(Poly.read, (3, "x+1"), (wrong(NO_PRIMES, InvalidPrime), wrong(NO_TEXTS, ParseError)))


class ReckoningTest(Refusals, unittest.TestCase):
    def check_all(self, p, one, other):
        first, second = Poly(p, one), Poly(p, other)
        self.assertEqual((first + second).entries, plain.add(p, one, other))
        self.assertEqual((first - second).entries, plain.less(p, one, other))
        self.assertEqual((first * second).entries, plain.times(p, one, other))
        self.assertEqual((-first).entries, plain.scale(p, one, p - 1))
        if other:
            quotient, rest = plain.split(p, one, other)
            self.assertEqual((first // second).entries, quotient)
            self.assertEqual((first % second).entries, rest)
            self.assertLess((first % second).degree, second.degree)
            self.assertEqual(first // second * second + first % second, first)

    def test_small_ones(self):
        rows = plain.below(3, 3)
        for one in rows:
            for other in rows:
                self.check_all(3, one, other)

    def test_further_ones(self):
        for p in PRIMES:
            rows = plain.some_rows(p, 12, 9, seed=p) + [(), (1,), (p - 1,)]
            for one in rows:
                for other in rows:
                    self.check_all(p, one, other)

    def test_long_ones(self):
        for p in (3, 7, 31):
            rows = plain.some_rows(p, 6, 150, seed=p + 1) + [(p - 1,) * 70, (1,) + (0,) * 60 + (1,)]
            for one in rows:
                for other in rows:
                    self.check_all(p, one, other)

    def test_products_at_the_change_of_ways(self):
        for p in (3, 31):
            for size in range(20, 30):
                for further in (20, 23, 24, 25, 60):
                    one, other = (p - 1,) * size, (p - 1,) * further
                    self.assertEqual((Poly(p, one) * Poly(p, other)).entries, plain.times(p, one, other))

    def test_quotients_at_the_change_of_ways(self):
        for p in (3, 7, 31):
            for size in (1, 2, 77, 78, 79, 80, 81, 82, 83, 200):
                for further in (2, 79, 80, 81, 82, 150):
                    row = plain.some_rows(p, 1, 1, seed=size) + plain.some_rows(p, 40, 300, seed=p + further)
                    entries = [entry for part in row for entry in part]
                    quotient = Poly(p, tuple(entries[:size - 1]) + (p - 1,))
                    divisor = Poly(p, tuple(entries[size:size + further - 1]) + (2,))
                    rest = Poly(p, plain.strip(entries[-further // 2:]))
                    self.assertLess(rest.degree, divisor.degree)
                    one = quotient * divisor + rest
                    self.assertEqual((one // divisor, one % divisor), (quotient, rest))
                    scattered = Poly(p, (0,) * (size - 1) + (1,))
                    self.assertEqual((scattered * divisor // divisor, scattered * divisor % divisor),
                                     (scattered, Poly(p, ())))

    def test_longest_products(self):
        one = Poly(31, (30,) * 1000)
        square = one * one
        # All entries are -1: those of the square count how often they are met.
        self.assertEqual(square.entries, tuple(min(k + 1, 1999 - k) % 31 for k in range(1999)))
        self.assertEqual((square // one, (square % one).is_zero), (one, True))

    def test_results_are_polynomials(self):
        one, other = Poly(3, (1, 2, 1)), Poly(3, (2, 1))
        for operate in OPERATORS:
            self.assertIs(type(operate(one, other)), Poly)
            self.assertEqual(operate(one, other).prime, 3)

    def test_wrong_operands(self):
        poly = Poly(3, (1, 2))
        for operate in OPERATORS:
            for value in NO_POLYS:
                self.assertRaises(TypeError, operate, poly, value)
                # A text on the left of the sign for remainders is formatted by Python itself.
                if not (operate is operator.mod and isinstance(value, str)):
                    self.assertRaises(TypeError, operate, value, poly)
            for prime in (5, 31):
                for other in (Poly(prime, ()), Poly(prime, (1,)), Poly(prime, (1, 2))):
                    self.refused(operate, (poly, other), InvalidOperation)
                    self.refused(operate, (other, poly), InvalidOperation)
        for one in (poly, Poly(3, ()), Poly(3, (1,))):
            for operate in (operator.floordiv, operator.mod):
                self.refused(operate, (one, Poly(3, ())), InvalidOperation)

    def test_nothing_is_changed(self):
        one, other = Poly(5, (1, 2, 3)), Poly(5, (4, 1))
        for operate in OPERATORS:
            operate(one, other)
        one.power(3), one.monic(), one.scaled(2), one.composed(other), one.reversed_to(9), one.derivative(), -one
        self.assertEqual((one, other), (Poly(5, (1, 2, 3)), Poly(5, (4, 1))))


class MethodTest(Refusals, unittest.TestCase):
    def test_values(self):
        for p in PRIMES:
            for row in plain.some_rows(p, 10, 8) + [(), (2,)]:
                for at in range(p):
                    self.assertEqual(Poly(p, row)(at), plain.value(p, row, at))
        for told in (3, -1, SIXTY) + NO_INTEGERS:
            self.refused(Poly(3, (1, 2)), (told,), InvalidOperation)

    def test_entries_of_powers(self):
        poly = Poly(7, (1, 0, 5))
        self.assertEqual([poly[k] for k in range(6)], [1, 0, 5, 0, 0, 0])
        self.assertEqual((poly[1000], poly[1001], poly[SIXTY], Poly(7, ())[0]), (0, 0, 0, 0))
        for told in (-1, -2, -SIXTY) + NO_INTEGERS:
            self.refused(lambda power: poly[power], (told,), InvalidCount, value=told)

    def test_monic(self):
        for p in PRIMES:
            for row in plain.some_rows(p, 10, 8):
                if row:
                    monic = Poly(p, row).monic()
                    self.assertEqual((monic.lead, monic.scaled(row[-1]).entries), (1, row))
        self.refused(Poly(3, ()).monic, (), InvalidOperation)

    def test_scaled(self):
        for p in PRIMES:
            for row in plain.some_rows(p, 6, 8) + [()]:
                for residue in range(p):
                    self.assertEqual(Poly(p, row).scaled(residue).entries, plain.scale(p, row, residue))
            for told in (p, -1, SIXTY) + NO_INTEGERS:
                self.refused(Poly(p, (1, 2)).scaled, (told,), InvalidOperation)

    def test_derivative(self):
        for p in PRIMES:
            for row in plain.some_rows(p, 10, 40) + [(), (1,), (0, 1), (1,) + (0,) * (p - 1) + (1,)]:
                told = plain.strip(k * row[k] % p for k in range(1, len(row)))
                self.assertEqual(Poly(p, row).derivative().entries, told)
        self.assertEqual(str(Poly.read(3, "x^3+1").derivative()), "0")

    def test_power(self):
        for p in (3, 7, 31):
            for row in plain.some_rows(p, 5, 4) + [(), (1,), (p - 1,), (0, 1)]:
                for exponent in range(9):
                    self.assertEqual(Poly(p, row).power(exponent).entries, plain.power(p, row, exponent))
        self.assertEqual(Poly(3, ()).power(0), Poly(3, (1,)))
        self.assertEqual(Poly(3, ()).power(1000), Poly(3, ()))
        self.assertEqual(Poly(3, (0, 1)).power(1000).entries, (0,) * 1000 + (1,))
        # In the base 3 the digits of 1000 tell the product of powers that is x ** 3 + 1 and the like.
        told = (1,)
        for exponent in (729, 243, 27, 1):
            told = plain.times(3, told, (1,) + (0,) * (exponent - 1) + (1,))
        self.assertEqual(Poly(3, (1, 1)).power(1000).entries, told)
        self.assertEqual(Poly(3, (2,)).power(1000), Poly(3, (1,)))

    def test_wrong_power(self):
        for told in (-1, 1001, SIXTY) + NO_INTEGERS:
            self.refused(Poly(3, (1, 1)).power, (told,), InvalidCount, value=told)
            self.refused(Poly(3, ()).power, (told,), InvalidCount, value=told)

    def test_composed(self):
        for p in (3, 5, 31):
            rows = plain.some_rows(p, 6, 7) + [(), (1,), (0, 1), (2, 1)]
            for one in rows:
                for other in rows:
                    told = ()
                    for power, entry in enumerate(one):
                        told = plain.add(p, told, plain.scale(p, plain.power(p, other, power), entry))
                    self.assertEqual(Poly(p, one).composed(Poly(p, other)).entries, told)

    def test_composed_with_many_entries(self):
        ones = Poly(5, (1,) * 1000)
        # The sum of all powers is (y ** 1000 - 1) / (y - 1).
        self.assertEqual(ones.composed(Poly(5, (1, 1))) * Poly(5, (0, 1)), Poly(5, (1, 1)).power(1000) - Poly(5, (1,)))
        self.assertEqual(ones.composed(Poly(5, (0, 1))), ones)

    def test_wrong_composed(self):
        for told in NO_POLYS:
            self.refused(Poly(3, (1, 1)).composed, (told,), InvalidPoly)
        for told in (Poly(5, ()), Poly(7, (1, 1))):
            self.refused(Poly(3, (1, 1)).composed, (told,), InvalidOperation)

    def test_reversed(self):
        self.assertEqual(str(Poly.read(3, "x^2+1").reversed_to(3)), "x^3+x")
        for p in (3, 31):
            for row in plain.some_rows(p, 10, 9) + [(), (1,), (0, 0, 1)]:
                for size in range(max(len(row) - 1, 0), 14):
                    told = plain.strip(row[size - k] if size - k < len(row) else 0 for k in range(size + 1))
                    self.assertEqual(Poly(p, row).reversed_to(size).entries, told)
        self.assertEqual(Poly(3, (2,)).reversed_to(1000).entries, (0,) * 1000 + (2,))
        self.assertEqual(Poly(3, ()).reversed_to(1000), Poly(3, ()))

    def test_wrong_reversed(self):
        for poly, low in ((Poly(3, (1, 2, 1)), 1), (Poly(3, (1,)), -1), (Poly(3, ()), -1), (Poly(3, (1,) * 1000), 998)):
            for told in (low, -SIXTY, 1001, SIXTY) + NO_INTEGERS:
                self.refused(poly.reversed_to, (told,), InvalidCount, value=told)
            self.assertEqual(poly.reversed_to(low + 1).reversed_to(low + 1), poly)

    def test_roots_tell_a_polynomial(self):
        for p in PRIMES:
            product = Poly(p, (p - 1,))
            for root in range(0, p, 2):
                product = product * Poly(p, (-root % p, 1))
            found = [root for root in range(p) if product(root) == 0]
            self.assertEqual(found, list(range(0, p, 2)))
            self.assertEqual((product.degree, product.lead), (len(found), p - 1))


if __name__ == "__main__":
    unittest.main()
