"""[3.1] to [3.5]: the irreducible factors of polynomials."""

import unittest
from unittest.mock import patch

from tests import plain
from tests.plain import NO_INTEGERS, NO_POLYS, NO_PRIMES, PRIMES, SIXTY, Refusals, wrong
from twinsheets.base.numbers import residue_root
from twinsheets.errors import InvalidCount, InvalidOperation, InvalidPoly, InvalidPrime, TooMany
from twinsheets.poly import factors
from twinsheets.poly.division import common, is_square_free, power_modulo
from twinsheets.poly.factors import bar_of, by_degrees, count_irreducible, discriminant, irreducibles, is_bar
from twinsheets.poly.factors import is_irreducible, is_row_irreducible, least_irreducible, parts, raised, roots
from twinsheets.poly.polys import Poly, poly_at

ONE, ZERO, X = Poly(3, (1,)), Poly(3, ()), Poly(3, (0, 1))
BAD = wrong(NO_POLYS, InvalidPoly)
LARGE = Poly(3, (1,) * 62)


def some_products(p):
    """Polynomials with repeated factors of small degrees, as pairs of the lead and the factors, ascending."""
    lists = [row for degree in (1, 2, 3) for row in plain.monics(p, degree) if plain.is_irreducible(p, row)]
    for step, many in ((1, 1), (3, 4), (5, 6), (7, 9)):
        for start in range(0, min(len(lists), 40), 3):
            chosen = [lists[(start + step * k * k) % len(lists)] for k in range(many)]
            chosen += chosen[:2] * 3
            if sum(len(row) - 1 for row in chosen) <= 60:
                yield p - 1, sorted(chosen, key=lambda row: plain.number(p, row))


def product_of(p, lead, chosen):
    product = Poly(p, (lead,))
    for row in chosen:
        product = product * Poly(p, row)
    return product


def counted(p, chosen):
    told = []
    for row in chosen:
        if (row, chosen.count(row)) not in told:
            told.append((row, chosen.count(row)))
    return told


class PartsTest(Refusals, unittest.TestCase):
    def check_parts(self, poly, chosen):
        p = poly.prime
        lead, found = parts(poly)
        self.assertIs(type(found), tuple)
        self.assertEqual(lead, poly.lead)
        self.assertEqual([(part.entries, many) for part, many in found], counted(p, chosen))
        self.assertIs(is_irreducible(poly), len(chosen) == 1)
        self.assertEqual(list(roots(poly)), [at for at in range(p) if plain.value(p, poly.entries, at) == 0])
        degrees = {}
        for row, _ in counted(p, chosen):
            degrees[len(row) - 1] = plain.times(p, degrees.get(len(row) - 1, (1,)), row)
        products = by_degrees(poly)
        self.assertEqual(list(products), sorted(degrees))
        self.assertEqual({degree: part.entries for degree, part in products.items()}, degrees)
        bar = bar_of(poly)
        if len(chosen) > 1:
            self.assertIs(is_bar(poly, bar), True)
            self.assertTrue(bar.is_monic and 1 <= bar.degree < poly.degree and (poly % bar).is_zero)
        else:
            self.assertIsNone(bar)

    def test_all_of_small_degree(self):
        for p, top in ((3, 6), (5, 4), (7, 3), (31, 2)):
            for degree in range(1, top + 1):
                for row in plain.monics(p, degree)[::1 if p < 7 else 5]:
                    self.check_parts(Poly(p, row), plain.factors(p, row))

    def test_with_leads(self):
        for p in PRIMES:
            for row in plain.some_rows(p, 12, 5):
                if row:
                    self.check_parts(Poly(p, row), plain.factors(p, row))

    def test_repeated_factors(self):
        for p in (3, 5, 7):
            for lead, chosen in some_products(p):
                self.check_parts(product_of(p, lead, chosen), chosen)

    def test_radicals(self):
        for p in (3, 5, 7):
            for lead, chosen in some_products(p):
                for power in (1, 2, p, p + 1, p * p):
                    row = product_of(p, lead, chosen).power(power).entries
                    told = product_of(p, 1, [part for part, _ in counted(p, chosen)])
                    self.assertEqual(factors.row_radical(p, row), told.entries)
            self.assertEqual(factors.row_radical(p, (2,)), (1,))

    def test_degrees_up_to_a_bound(self):
        for p in (3, 5):
            for lead, chosen in some_products(p):
                row = product_of(p, lead, chosen).entries
                found = factors.degree_products(p, row, 2)
                self.assertLessEqual({len(part) - 1 for part in chosen if len(part) < 4}, set(found))
                for degree, product in found.items():
                    self.assertEqual(product, product_of(p, 1, sorted({part for part in chosen if len(part) == degree + 1})).entries)

    def test_powers_with_the_prime(self):
        for p in (3, 5, 7):
            for row in ((1, 1), next(row for row in plain.monics(p, 2) if plain.is_irreducible(p, row))):
                for many in (p, 2 * p, p + 1, p * p):
                    if many * (len(row) - 1) <= 60:
                        self.check_parts(product_of(p, 2, [row] * many), [row] * many)

    def test_constants(self):
        for p in PRIMES:
            for residue in range(1, p):
                poly = Poly(p, (residue,))
                self.assertEqual(parts(poly), (residue, ()))
                self.assertIs(is_irreducible(poly), False)
                self.assertEqual((roots(poly), by_degrees(poly), bar_of(poly)), ((), {}, None))
                self.assertIs(is_bar(poly, poly), False)
                self.assertIs(is_bar(poly, Poly(p, (1,))), False)

    def test_all_residues_are_roots(self):
        for p in PRIMES:
            poly = Poly(p, (0, p - 1) + (0,) * (p - 2) + (1,))
            self.assertEqual(roots(poly), tuple(range(p)))
            self.assertEqual(parts(poly), (1, tuple((Poly(p, (k, 1)), 1) for k in range(p))))

    def test_sixty_and_sixty_one(self):
        for p in (3, 5, 31):
            low = [row for row in plain.some_rows(p, 40, 61, seed=p) if 50 < len(row) <= 60][:3]
            self.assertTrue(low)
            for row in low:
                poly = Poly(p, row + (0,) * (60 - len(row)) + (p - 1,))
                lead, found = parts(poly)
                product = Poly(p, (lead,))
                for part, many in found:
                    # The told parts are irreducible by [3.2].
                    x, n = Poly(p, (0, 1)), part.degree
                    self.assertEqual(raised(part, n), x % part)
                    for q in PRIMES + (2, 37, 41, 43, 47, 53, 59):
                        if n % q == 0:
                            self.assertEqual(common(raised(part, n // q) - x, part).degree, 0)
                    product = product * part.power(many)
                self.assertEqual(product, poly)
        for call in (parts, is_irreducible, roots, by_degrees, bar_of, discriminant):
            call(Poly(3, (1,) * 61))
            self.refused(call, (LARGE,), TooMany, limit=60)
        self.refused(is_bar, (LARGE, X), TooMany, limit=60)
        self.refused(raised, (LARGE, 1), TooMany, limit=60)

    def test_many_factors_of_one_degree(self):
        for p, degree in ((3, 4), (3, 5), (5, 3), (7, 2)):
            rows = [row for row in plain.monics(p, degree) if plain.is_irreducible(p, row)][:60 // degree]
            self.check_parts(product_of(p, 1, rows), rows)

    def test_wrong_arguments(self):
        for call in (parts, is_irreducible, roots, by_degrees, bar_of, discriminant):
            self.refusals(call, (X,), (BAD,))
            for p in PRIMES:
                self.refused(call, (Poly(p, ()),), InvalidOperation)
        for value in (None, X):
            self.refused(is_bar, (ZERO, value), InvalidOperation)
            for told in NO_POLYS:
                self.refused(is_bar, (told, value), InvalidPoly)


class BarTest(unittest.TestCase):
    def test_against_all_divisors(self):
        for p, degree in ((3, 4), (5, 3)):
            tried = [row for size in range(degree + 2) for row in plain.monics(p, size)] + [()]
            for row in plain.monics(p, degree)[::7]:
                told = [two for two in plain.divisors(p, row) if 1 < len(two) < len(row)]
                for lead in (1, 2):
                    poly = Poly(p, plain.scale(p, row, lead))
                    for two in tried:
                        self.assertIs(is_bar(poly, Poly(p, two)), two in told)
                        self.assertIs(is_bar(poly, Poly(p, plain.scale(p, two, p - 1))), False)

    def test_values_of_every_kind(self):
        poly = Poly(3, (0, 0, 1))
        self.assertIs(is_bar(poly, X), True)
        for value in NO_POLYS + (ZERO, ONE, poly, Poly(5, (0, 1)), Poly(3, (0, 2)), (X,), [X], Poly(3, (1, 1))):
            self.assertIs(is_bar(poly, value), False)


class RaisedTest(Refusals, unittest.TestCase):
    def test_against_powers(self):
        for p in (3, 5, 31):
            for row in plain.some_rows(p, 8, 7) + [(1, 1), (0, 2), (1, 0, 1)]:
                if len(row) > 1:
                    poly, x = Poly(p, row), Poly(p, (0, 1))
                    for times in (0, 1, 2, 3, 9, 30):
                        self.assertEqual(raised(poly, times), power_modulo(x, p ** times, poly))

    def test_two_hundred_times(self):
        for p in (3, 31):
            poly = least_irreducible(p, 8)
            self.assertEqual(raised(poly, 200), Poly(p, (0, 1)))
            self.assertEqual(raised(poly, 199), raised(poly, 7))
            self.assertEqual(raised(Poly(p, (1,) * 61), 200).prime, p)

    def test_the_told_product(self):
        for p in (3, 5):
            for poly in list(irreducibles(p, 4))[:5]:
                self.assertEqual(raised(poly, 4), Poly(p, (0, 1)))
                self.assertNotEqual(raised(poly, 2), Poly(p, (0, 1)))

    def test_wrong_arguments(self):
        self.refusals(raised, (X, 1), (BAD, wrong((-1, 201, SIXTY) + NO_INTEGERS, InvalidCount, "value")))
        for times in (0, 200):
            self.refused(raised, (ZERO, times), InvalidOperation)
            self.refused(raised, (ONE, times), InvalidOperation)
            self.refused(raised, (LARGE, times), TooMany, limit=60)
        for poly in (ZERO, ONE, LARGE):
            self.refused(raised, (poly, 201), InvalidCount, value=201)
        raised(X, 0), raised(X, 200)


class DiscriminantTest(Refusals, unittest.TestCase):
    def test_degree_one_and_two(self):
        for p in PRIMES:
            for lead in range(1, p):
                for low in (0, 1, p - 1):
                    self.assertEqual(discriminant(Poly(p, (low, lead))), 1)
                    for high in range(0, p, 3):
                        told = (high * high - 4 * low * lead) % p
                        self.assertEqual(discriminant(Poly(p, (low, high, lead))), told)

    def test_degree_three(self):
        for p in (3, 5, 31):
            for row in plain.some_rows(p, 30, 4):
                if len(row) == 4:
                    d, c, b, a = row
                    told = b * b * c * c - 4 * a * c ** 3 - 4 * b ** 3 * d - 27 * a * a * d * d + 18 * a * b * c * d
                    self.assertEqual(discriminant(Poly(p, row)), told % p)

    def test_differences_of_roots(self):
        for p in PRIMES:
            for lead in (1, 2, p - 1):
                for chosen in ((0, 1), (0, 2, 1), tuple(range(p))[:7], (1, 1), (0, 2, 0), tuple(range(p))):
                    poly = product_of(p, lead, [plain.strip((-root % p, 1)) for root in chosen])
                    told = lead ** (2 * len(chosen) - 2)
                    for i, one in enumerate(chosen):
                        for other in chosen[:i]:
                            told = told * (one - other) ** 2
                    self.assertEqual(discriminant(poly), told % p)

    def test_zero_for_what_is_not_square_free(self):
        for p, size in ((3, 6), (5, 4)):
            for row in plain.below(p, size):
                if len(row) > 1:
                    self.assertEqual(discriminant(Poly(p, row)) == 0, not is_square_free(Poly(p, row)))

    def test_parity_of_the_factors(self):
        for p, size in ((3, 6), (5, 4), (7, 4)):
            for row in plain.below(p, size)[::3]:
                poly = Poly(p, row)
                if len(row) > 1 and is_square_free(poly):
                    many = len(parts(poly)[1])
                    even = (poly.degree - many) % 2 == 0
                    self.assertEqual(residue_root(p, discriminant(poly)) is not None, even)

    def test_products(self):
        for p in (3, 5, 7):
            for row in plain.monics(p, 3)[::5]:
                for root in range(p):
                    one, other = Poly(p, row), Poly(p, (-root % p, 1))
                    told = discriminant(one) * discriminant(other) * one(root) ** 2 % p
                    self.assertEqual(discriminant(one * other), told)

    def test_wrong_arguments(self):
        for p in PRIMES:
            self.refused(discriminant, (Poly(p, (p - 1,)),), InvalidOperation)


class CountTest(Refusals, unittest.TestCase):
    def test_told_sums(self):
        for p in PRIMES:
            for n in (1, 2, 3, 4, 6, 12, 30, 64, 199, 200):
                told = sum(d * count_irreducible(p, d) for d in range(1, n + 1) if n % d == 0)
                self.assertEqual(told, p ** n)

    def test_wrong_arguments(self):
        numbers = (0, -1, SIXTY) + NO_INTEGERS
        primes = wrong(NO_PRIMES, InvalidPrime)
        self.refusals(count_irreducible, (3, 2), (primes, wrong(numbers + (201,), InvalidCount, "value")))
        self.refusals(least_irreducible, (3, 2), (primes, wrong(numbers + (21,), InvalidCount, "value")))
        self.refusals(lambda prime, degree: next(irreducibles(prime, degree)), (3, 2),
                      (primes, wrong(numbers + (21,), InvalidCount, "value")))


class IrreduciblesTest(unittest.TestCase):
    def test_against_own_look(self):
        for p, top in ((3, 6), (5, 4), (7, 3), (11, 2), (31, 2)):
            for degree in range(1, top + 1):
                told = [row for row in plain.monics(p, degree) if plain.is_irreducible(p, row)]
                found = list(irreducibles(p, degree))
                self.assertEqual([poly.entries for poly in found], told)
                self.assertEqual(len(told), count_irreducible(p, degree))
                self.assertEqual(least_irreducible(p, degree), found[0])
                self.assertEqual([poly.number for poly in found], sorted(poly.number for poly in found))

    def test_is_irreducible_with_leads(self):
        for p, degree in ((5, 3), (7, 2)):
            for row in plain.monics(p, degree):
                told = plain.is_irreducible(p, row)
                self.assertIs(is_irreducible(Poly(p, plain.scale(p, row, p - 1))), told)

    def test_great_degrees(self):
        # Binomials, and products of two factors; with and without a table of powers.
        rows = [(5, (3,) + (0,) * (2 ** k - 1) + (1,), True) for k in range(1, 9)]
        rows += [(7, (4,) + (0,) * (2 * 3 ** k - 1) + (1,), True) for k in range(1, 6)]
        for degree, further in ((2, 256), (64, 64), (16, 128), (32, 2)):
            one, other = Poly(5, (3,) + (0,) * (degree - 1) + (1,)), Poly(5, (2,) + (0,) * (further - 1) + (1,))
            rows.append((5, (one * other).entries, False))
        for degree, further in ((2, 20), (19, 20), (11, 11), (7, 18)):
            rows.append((3, (least_irreducible(3, degree) * least_irreducible(3, further)).entries, False))
        for p, row, told in rows:
            with patch.object(factors, "_MAX_TABLE", 1):
                self.assertIs(is_row_irreducible(p, row), told, (p, row))
            self.assertIs(is_row_irreducible(p, row), told, (p, row))
        for p, top in ((3, 6), (5, 4)):
            for degree in range(2, top + 1):
                for row in plain.monics(p, degree):
                    with patch.object(factors, "_MAX_TABLE", 1):
                        self.assertIs(is_row_irreducible(p, row), plain.is_irreducible(p, row))

    def test_errors_come_with_the_first_result(self):
        for prime, degree in ((4, 2), (3, 0), (3, 21), (None, None)):
            made = irreducibles(prime, degree)
            self.assertRaises((InvalidPrime, InvalidCount), next, made)

    def test_one_by_one(self):
        # There are more than 10 ** 28 of them.
        made = irreducibles(31, 20)
        first = [next(made) for _ in range(3)]
        self.assertTrue(all(is_irreducible(poly) and poly.is_monic and poly.degree == 20 for poly in first))
        self.assertEqual([poly.number for poly in first], sorted(poly.number for poly in first))
        self.assertEqual(least_irreducible(31, 20), first[0])
        between = [poly_at(31, number) for number in range(31 ** 20, first[2].number + 1)]
        self.assertEqual([poly for poly in between if is_irreducible(poly)], first)

    def test_all_degrees(self):
        for p in PRIMES:
            for degree in range(1, 21, 4):
                self.assertTrue(is_irreducible(least_irreducible(p, degree)))

    def test_constants_of_the_module(self):
        self.assertEqual((factors.MAX_PARTED, factors.MAX_LISTED), (60, 20))


if __name__ == "__main__":
    unittest.main()
