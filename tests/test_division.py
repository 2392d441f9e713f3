"""[2.5], [2.6]: common divisors, powers and inverses modulo a polynomial, joined rests."""

import unittest

from tests import plain
from tests.plain import NO_INTEGERS, NO_POLYS, SIXTY, Refusals, polys, wrong
from twinsheets.errors import InvalidCount, InvalidOperation, InvalidPoly
from twinsheets.poly.division import are_cofactors, cofactors, common, inverse_modulo, is_square_free, joined_rests
from twinsheets.poly.division import power_modulo
from twinsheets.poly.polys import Poly, poly_at

ONE, ZERO, X = Poly(3, (1,)), Poly(3, ()), Poly(3, (0, 1))
BAD = wrong(NO_POLYS, InvalidPoly)
OTHER_PRIMES = (Poly(5, ()), Poly(5, (1,)), Poly(7, (2, 1)))


def plain_common(p, one, other):
    """The greatest common monic divisor, by trying all, of two polynomials that are not both zero."""
    size = min(len(row) for row in (one, other) if row)
    for degree in range(size - 1, -1, -1):
        for told in plain.monics(p, degree):
            if not plain.rest(p, one, told) and not plain.rest(p, other, told):
                return told
    raise AssertionError


class CommonTest(Refusals, unittest.TestCase):
    def test_against_all_monic_polynomials(self):
        for p, size in ((3, 4), (5, 2)):
            rows = plain.below(p, size)
            for one in rows[::2] + rows[-5:]:
                for other in rows[::3] + [()]:
                    if one or other:
                        told = plain_common(p, one, other)
                        self.assertEqual(common(Poly(p, one), Poly(p, other)).entries, told)
                        self.assertEqual(common(Poly(p, other), Poly(p, one)).entries, told)
            self.assertEqual(common(Poly(p, ()), Poly(p, ())), Poly(p, ()))

    def test_common_factors_come_out(self):
        for p in plain.PRIMES:
            rows = [row for row in plain.some_rows(p, 8, 6) if row]
            for one, other, further in zip(rows, rows[1:], rows[2:]):
                one, other, further = polys(p, (one, other, further))
                found = common(one * further, other * further)
                self.assertTrue(found.is_monic)
                self.assertEqual(found, common(one, other) * further.monic())

    def test_long_ones(self):
        one, other, third = polys(31, plain.some_rows(31, 3, 400, seed=8))
        found = common(one * third, other * third)
        self.assertTrue((found % third).is_zero and (one * third % found).is_zero and (other * third % found).is_zero)

    def test_wrong_arguments(self):
        for call in (common, cofactors):
            self.refusals(call, (ONE, X), (BAD, BAD))
            for other in OTHER_PRIMES:
                self.refused(call, (ZERO, other), InvalidOperation)
                self.refused(call, (other, X), InvalidOperation)


class CofactorsTest(Refusals, unittest.TestCase):
    def pairs(self):
        for p in (3, 5, 31):
            rows = plain.some_rows(p, 7, 7, seed=p) + [(), (1,), (2,), (0, 1)]
            for one in rows:
                for other in rows:
                    yield Poly(p, one), Poly(p, other)

    def test_they_make_the_common_divisor(self):
        for one, other in self.pairs():
            value = cofactors(one, other)
            self.assertIs(type(value), tuple)
            told, s, t = value
            self.assertEqual(told, common(one, other))
            self.assertEqual(s * one + t * other, told)
            self.assertIs(are_cofactors(one, other, value), True)

    def test_others_are_taken_too(self):
        for one, other in self.pairs():
            told, s, t = cofactors(one, other)
            further = Poly(one.prime, (1, 2, 1))
            self.assertIs(are_cofactors(one, other, (told, s + further * other, t - further * one)), True)
            unit = Poly(one.prime, (1,))
            if not one.is_zero:
                self.assertIs(are_cofactors(one, other, (told, s + unit, t)), False)
                self.assertIs(are_cofactors(one, other, (told, s.scaled(2), t.scaled(2))), told.is_zero)
                self.assertIs(are_cofactors(one, other, (told.scaled(2), s.scaled(2), t.scaled(2))), False)
            if not other.is_zero:
                self.assertIs(are_cofactors(one, other, (told, s, t + unit)), False)
            if not told.is_zero:
                self.assertIs(are_cofactors(one, other, (told * further, s * further, t * further)), False)

    def test_two_zeros_have_all(self):
        self.assertIs(are_cofactors(ZERO, ZERO, (ZERO, X, ONE)), True)
        self.assertIs(are_cofactors(ZERO, ZERO, (ONE, X, ONE)), False)

    def test_values_of_every_kind(self):
        told = cofactors(X, ONE)
        for value in NO_POLYS + (ONE, told[:2], told + told[:1], list(told), [told], (told,), (None, None, None)):
            self.assertIs(are_cofactors(X, ONE, value), False)
        for at in range(3):
            for other in NO_POLYS + OTHER_PRIMES:
                self.assertIs(are_cofactors(X, ONE, told[:at] + (other,) + told[at + 1:]), False)

    def test_long_ones(self):
        one, other = polys(7, plain.some_rows(7, 2, 900, seed=4))
        value = cofactors(one, other)
        self.assertIs(are_cofactors(one, other, value), True)
        self.assertLess(value[1].degree, other.degree)
        self.assertLess(value[2].degree, one.degree)

    def test_wrong_arguments(self):
        self.refusals(lambda one, other: are_cofactors(one, other, None), (ONE, X), (BAD, BAD))
        for value in (None, (ONE, ONE, ZERO)):
            self.refused(are_cofactors, (ONE, Poly(5, ()), value), InvalidOperation)


class PowerTest(Refusals, unittest.TestCase):
    def test_against_powers(self):
        for p in (3, 5, 31):
            for base in plain.some_rows(p, 5, 6) + [(), (1,), (0, 1)]:
                for modulus in plain.some_rows(p, 5, 5, seed=5) + [(1,), (2,), (0, 1), (1, 0, 1)]:
                    if modulus:
                        for exponent in (0, 1, 2, 3, 7, 12):
                            told = plain.rest(p, plain.power(p, base, exponent), modulus)
                            found = power_modulo(Poly(p, base), exponent, Poly(p, modulus))
                            self.assertEqual(found.entries, told)

    def test_great_exponents(self):
        for p in plain.PRIMES:
            # x has the order p - 1 or less modulo x - c, and x * x + c has few rests.
            for c in (1, p - 1):
                modulus = Poly(p, (c, 0, 1))
                for exponent in (SIXTY, 10 ** 59, p ** 20, p ** 20 - 1, p ** 20 + 1):
                    x = Poly(p, (0, 1))
                    even = Poly(p, (pow(p - c, exponent // 2, p),))
                    self.assertEqual(power_modulo(x, exponent, modulus), even * x if exponent % 2 else even)

    def test_a_long_modulus(self):
        modulus = Poly(5, (4,) + (0,) * 120 + (1,))
        self.assertEqual(power_modulo(Poly(5, (0, 1)), 10 ** 59, modulus), Poly(5, (0,) * (10 ** 59 % 121) + (1,)))

    def test_constant_modulus(self):
        for exponent in (0, 1, SIXTY):
            self.assertEqual(power_modulo(X, exponent, Poly(3, (2,))), ZERO)
            self.assertEqual(power_modulo(ZERO, exponent, ONE), ZERO)

    def test_exponent_zero(self):
        self.assertEqual(power_modulo(ZERO, 0, X), ONE)
        self.assertEqual(power_modulo(ZERO, 5, X), ZERO)

    def test_wrong_arguments(self):
        numbers = wrong((-1, -SIXTY) + NO_INTEGERS, InvalidCount, "value")
        self.refusals(lambda base, modulus, exponent: power_modulo(base, exponent, modulus), (X, ONE, 2),
                      (BAD, BAD, numbers))
        for exponent in (1, -1, None):
            self.refused(power_modulo, (X, exponent, Poly(5, ())), InvalidOperation)
            self.refused(power_modulo, (X, exponent, Poly(5, (1, 1))), InvalidOperation)
            self.refused(power_modulo, (None, exponent, Poly(5, ())), InvalidPoly)
            self.refused(power_modulo, (X, exponent, None), InvalidPoly)
        self.refused(power_modulo, (X, 1, ZERO), InvalidOperation)
        self.refused(power_modulo, (X, -1, ZERO), InvalidCount, value=-1)


class InverseTest(Refusals, unittest.TestCase):
    def test_against_all_polynomials(self):
        for p, degree in ((3, 3), (5, 2), (31, 1)):
            for modulus in plain.monics(p, degree)[::4] + [plain.scale(p, row, 2) for row in plain.monics(p, 1)[:3]]:
                least = plain.below(p, len(modulus) - 1)
                for row in plain.below(p, degree)[::3] + [(), (1, 1, 0, 1, 1)]:
                    told = [other for other in least if plain.rest(p, plain.times(p, row, other), modulus) == (1,)]
                    found = inverse_modulo(Poly(p, row), Poly(p, modulus))
                    if told:
                        self.assertEqual([found.entries], told)
                    else:
                        self.assertIsNone(found)

    def test_wrong_arguments(self):
        self.refusals(inverse_modulo, (ONE, X), (BAD, BAD))
        for modulus in (ZERO, ONE, Poly(3, (2,))):
            self.refused(inverse_modulo, (X, modulus), InvalidOperation)
            self.refused(inverse_modulo, (None, modulus), InvalidPoly)
        for other in OTHER_PRIMES:
            self.refused(inverse_modulo, (X, other), InvalidOperation)


class JoinedTest(Refusals, unittest.TestCase):
    def check_rows(self, p, rows):
        found = joined_rests(tuple((Poly(p, rest), Poly(p, modulus)) for rest, modulus in rows))
        degree = sum(len(modulus) - 1 for _, modulus in rows)
        self.assertLess(found.degree, degree)
        for rest, modulus in rows:
            self.assertEqual((found % Poly(p, modulus)).entries, plain.rest(p, rest, modulus))

    def test_one_to_four_moduli(self):
        for p in (3, 5, 31):
            # Different irreducible ones, powers of them and multiples by residues.
            moduli = [(0, 1), (1, 2, 1), plain.scale(p, plain.power(p, (2, 1), 2), p - 1),
                      next(row for row in plain.monics(p, 2) if plain.is_irreducible(p, row))]
            for rests in ([(), (), (), ()], [(1,), (2,), (1, 1), (0, 1)], plain.some_rows(p, 4, 9)):
                for many in range(1, 5):
                    self.check_rows(p, list(zip(rests, moduli))[:many])
                    self.check_rows(p, list(zip(rests, moduli))[:many][::-1])

    def test_against_all_polynomials(self):
        for first in plain.below(3, 1):
            for second in plain.below(3, 2):
                rows = ((Poly(3, first), X), (Poly(3, second), Poly(3, (1, 0, 1))))
                told = [row for row in plain.below(3, 3) if plain.rest(3, row, (0, 1)) == first
                        and plain.rest(3, row, (1, 0, 1)) == second]
                self.assertEqual([joined_rests(rows).entries], told)

    def test_wrong_rows(self):
        pair = (ONE, X)
        for rows in NO_POLYS + (ONE, (), [], [pair], {}, (ONE,), (X, ONE), pair, (pair, ONE), ((ONE,),), ((),),
                                ((ONE, X, X),), ([ONE, X],), (pair, None), {pair[0].number: pair}, ((pair,),)):
            self.refused(joined_rests, (rows,), InvalidPoly)
        for told in NO_POLYS:
            self.refused(joined_rests, (((told, X),),), InvalidPoly)
            self.refused(joined_rests, ((pair, (ONE, told)),), InvalidPoly)
            # What is no polynomial comes ahead of moduli that do not go together.
            self.refused(joined_rests, (((ONE, ONE), (ONE, told)),), InvalidPoly)
        for modulus in (ZERO, ONE, Poly(3, (2,))):
            self.refused(joined_rests, (((ONE, modulus),),), InvalidOperation)
            self.refused(joined_rests, ((pair, (ONE, modulus)),), InvalidOperation)
        for other in OTHER_PRIMES + (Poly(5, (0, 1)),):
            self.refused(joined_rests, ((pair, (other, X + ONE)),), InvalidOperation)
            self.refused(joined_rests, ((pair, (ONE, other)),), InvalidOperation)
            self.refused(joined_rests, (((ONE, other),),), InvalidOperation)
        for moduli in (((0, 1), (0, 1)), ((0, 1), (0, 2)), ((0, 1), (1, 1), (0, 1, 1)), ((0, 0, 1), (2, 1), (0, 1))):
            self.refused(joined_rests, (tuple((ONE, Poly(3, modulus)) for modulus in moduli),), InvalidOperation)


class SquareFreeTest(Refusals, unittest.TestCase):
    def test_against_squares(self):
        for p, top in ((3, 5), (5, 3), (7, 2)):
            squares = [plain.times(p, row, row) for degree in range(1, top // 2 + 1) for row in plain.monics(p, degree)]
            for row in plain.below(p, top + 1):
                if row:
                    told = all(plain.rest(p, row, square) for square in squares if len(square) <= len(row))
                    self.assertIs(is_square_free(Poly(p, row)), told)

    def test_powers_with_the_prime(self):
        for p in plain.PRIMES:
            for row in plain.some_rows(p, 5, 5):
                power = Poly(p, row).power(p)
                self.assertTrue(power.derivative().is_zero)
                if not power.is_zero:
                    self.assertIs(is_square_free(power), power.degree < 1)
            self.assertIs(is_square_free(Poly(p, (0, p - 1) + (0,) * (p - 2) + (1,))), True)

    def test_constants_and_zero(self):
        for p in plain.PRIMES:
            for residue in range(1, p):
                self.assertIs(is_square_free(Poly(p, (residue,))), True)
            self.refused(is_square_free, (Poly(p, ()),), InvalidOperation)
        self.refusals(is_square_free, (X,), (BAD,))

    def test_of_all_numbers(self):
        # Of the monic polynomials of degree n from 2 on, p ** n - p ** (n - 1) are square-free.
        for p, degree in ((3, 2), (3, 6), (5, 4), (7, 3), (31, 2)):
            many = sum(is_square_free(poly_at(p, number)) for number in range(p ** degree, 2 * p ** degree))
            self.assertEqual(many, p ** degree - p ** (degree - 1))


if __name__ == "__main__":
    unittest.main()
