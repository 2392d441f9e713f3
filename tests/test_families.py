"""[0.18], [15.1] to [15.6]: square-free polynomials, excesses, and families of curves."""

import unittest
from fractions import Fraction
from itertools import islice, product

from tests import plain
from tests.plain import NO_INTEGERS, NO_OBJECTS, NO_POLYS, NO_PRIMES, PRIMES, SIXTY, Refusals, wrong
from twinsheets.curve.changes import between, count_changes, own_changes
from twinsheets.curve.curves import Curve
from twinsheets.errors import InvalidCount, InvalidCurve, InvalidOperation, InvalidPoly, InvalidPrime, TooMany
from twinsheets.family import families as module
from twinsheets.family.families import count_curves, count_square_free, excess_of, excess_sum, families, family_of, mass
from twinsheets.family.families import square_free_ones
from twinsheets.poly.polys import Poly
from twinsheets.zeta.counts import l_of

QUINT, NONE = Curve.read(3, "x^5+2x+1"), Curve.read(3, "2x^6+x+1")
WITHIN = ((3, 0), (3, 1), (3, 2), (3, 3), (5, 0), (5, 1), (5, 2), (7, 0), (7, 1), (11, 0), (13, 0), (17, 0))


def led(p, g, row, table, scale):
    """The polynomial to which a change leads one, multiplied out."""
    a, b, c, d = table
    total = ()
    for at, entry in enumerate(row):
        top = plain.power(p, plain.strip((b, a)), at)
        bottom = plain.power(p, plain.strip((d, c)), 2 * g + 2 - at)
        total = plain.add(p, total, plain.scale(p, plain.times(p, top, bottom), entry))
    return plain.scale(p, total, scale * scale)


def normal_changes(p):
    """The tables and scales of all changes in the normal form."""
    for table in product(range(p), repeat=4):
        a, b, c, d = table
        if (a * d - b * c) % p and next(entry for entry in table if entry) == 1:
            for scale in range(1, p):
                yield table, scale


def all_rows(p, g):
    return plain.all_curve_rows(p, 2 * g + 1) + plain.all_curve_rows(p, 2 * g + 2)


def families_plain(p, g):
    """Heads, numbers of own changes, and families, by leading each curve by all changes."""
    every, found = list(normal_changes(p)), []
    met = set()
    for row in sorted(all_rows(p, g), key=lambda row: plain.number(p, row)):
        if row not in met:
            images = [led(p, g, row, table, scale) for table, scale in every]
            met |= set(images)
            found.append((row, images.count(row), set(images)))
    return found


class SquareFreeTest(Refusals, unittest.TestCase):
    def test_constants(self):
        self.assertEqual((module.MAX_FAMILY, module.MAX_FAMILY_DEGREE), (100000, 200))

    def test_square_free_ones(self):
        for p, top in ((3, 6), (5, 4), (7, 3), (31, 1)):
            for degree in range(top + 1):
                expected = [row for row in plain.monics(p, degree) if plain.is_square_free(p, row)]
                told = list(square_free_ones(p, degree))
                self.assertEqual([one.entries for one in told], expected)
                self.assertTrue(all(one.prime == p for one in told))
                self.assertEqual(count_square_free(p, degree), len(expected))

    def test_great_degrees(self):
        for p in PRIMES:
            self.assertEqual((count_square_free(p, 0), count_square_free(p, 1)), (1, p))
            for degree in (2, 3, 20, 199, 200):
                self.assertEqual(count_square_free(p, degree), p ** degree - p ** (degree - 1))
            for degree in (12, 20):
                for one in islice(square_free_ones(p, degree), 5):
                    self.assertEqual((one.degree, one.lead), (degree, 1))
                    self.assertTrue(plain.is_square_free(p, one.entries))

    def test_excesses(self):
        for p, top in ((3, 5), (5, 3), (7, 2)):
            for degree in range(1, top + 1):
                total, scaled = 0, 0
                for row in plain.monics(p, degree):
                    for lead in range(1, p):
                        one = plain.scale(p, row, lead)
                        pairs = sum(y * y % p == plain.value(p, one, x) for x in range(p) for y in range(p))
                        self.assertEqual(excess_of(Poly(p, one)), pairs - p)
                        if plain.is_square_free(p, row):
                            scaled += pairs - p
                            total += pairs - p if lead == 1 else 0
                self.assertEqual((excess_sum(p, degree), scaled), (total, 0))
        for p in PRIMES:
            for degree in (1, 2, 3, 4, 99, 100, 199, 200):
                self.assertEqual(excess_sum(p, degree), 0 if degree % 2 else p * (1 - p))
            for row in plain.some_rows(p, 20, 12):
                if row:
                    pairs = sum(y * y % p == plain.value(p, row, x) for x in range(p) for y in range(p))
                    self.assertEqual(excess_of(Poly(p, row)), pairs - p)
            self.assertEqual([excess_of(Poly(p, (c,))) for c in (1, p - 1)], [p, p if p % 4 == 1 else -p])
        self.assertEqual(excess_of(Poly(3, (0,) * 999 + (1,))), 0)

    def test_wrong_arguments(self):
        primes = wrong(NO_PRIMES, InvalidPrime)
        for call, low, high in ((count_square_free, 0, 200), (excess_sum, 1, 200), (lambda *told: next(square_free_ones(*told)), 0, 20)):
            counts = wrong((low - 1, high + 1, SIXTY, -SIXTY) + NO_INTEGERS, InvalidCount, "value")
            self.refusals(call, (3, 2), (primes, counts))
        square_free_ones(4, None)
        self.refusals(excess_of, (Poly(3, (1,)),), (wrong(NO_POLYS + (QUINT,), InvalidPoly),))
        self.refused(excess_of, (Poly(3, ()),), InvalidOperation)


class FamilyTest(Refusals, unittest.TestCase):
    def test_counts(self):
        for p, g in ((3, 0), (3, 1), (3, 2), (5, 0), (5, 1), (7, 0)):
            rows = all_rows(p, g)
            self.assertEqual(count_curves(p, g), len(rows))
            odd = sum(len(row) == 2 * g + 2 for row in rows)
            self.assertEqual(odd, (p - 1) * count_square_free(p, 2 * g + 1))
        for p in PRIMES:
            self.assertEqual(count_curves(p, 0), (p - 1) * p * p)
            for g in (1, 2, 3, 50, 99):
                self.assertEqual(count_curves(p, g), (p - 1) * (p ** (2 * g + 2) - p ** (2 * g)))
                self.assertEqual(count_curves(p, g), (p - 1) * sum(count_square_free(p, 2 * g + more) for more in (1, 2)))

    def test_families_against_all_changes(self):
        for p, g in ((3, 0), (3, 1), (3, 2), (5, 0), (5, 1)):
            expected = families_plain(p, g)
            told = families(p, g)
            self.assertIsInstance(told, tuple)
            self.assertEqual([(head.f.entries, many) for head, many in told], [(row, many) for row, many, _ in expected])
            for row, many, images in expected:
                self.assertEqual(len(images) * many, count_changes(p))
                for image in sorted(images)[::7]:
                    head, told_many = family_of(Curve(Poly(p, image)))
                    self.assertEqual((head.f.entries, told_many), (row, many))

    def test_families(self):
        for p, g in WITHIN:
            told = families(p, g)
            numbers = [head.f.number for head, _ in told]
            self.assertEqual(numbers, sorted(set(numbers)))
            self.assertTrue(all(head.genus == g and head.prime == p for head, _ in told))
            self.assertEqual(sum(count_changes(p) // many for _, many in told), count_curves(p, g))
            total = sum(Fraction(1, many) for _, many in told)
            self.assertEqual((total.numerator, total.denominator), mass(p, g))
            if g:
                self.assertEqual(sum(Fraction(len(head), many) for head, many in told), (p + 1) * p ** (2 * g - 1))
            known = dict((head.f.number, many) for head, many in told)
            for head, many in told[::len(told) // 12 + 1]:
                if p <= 13:
                    self.assertEqual(family_of(head), (head, many))
                    self.assertEqual(len(own_changes(head)), many)
                    twisted, again = family_of(head.twist())
                    self.assertEqual(known[twisted.f.number], again)
                    self.assertEqual(again, many)

    def test_heads_of_drawn_curves(self):
        for p in (3, 5, 7, 11, 13):
            for row in plain.curve_rows(p):
                curve = Curve(Poly(p, row))
                head, many = family_of(curve)
                self.assertLessEqual(head.f.number, curve.f.number)
                self.assertEqual((head.genus, head.prime), (curve.genus, p))
                self.assertIsNotNone(between(curve, head))
                self.assertEqual(len(own_changes(curve)), many)
                self.assertEqual(family_of(head), (head, many))
                if p == 3:
                    images = {led(p, curve.genus, row, *change) for change in normal_changes(p)}
                    self.assertEqual(head.f.number, min(plain.number(p, image) for image in images))

    def test_mass(self):
        for p in PRIMES:
            self.assertEqual(mass(p, 0), (p, p * p - 1))
            for g in (1, 2, 3, 99):
                self.assertEqual(mass(p, g), (p ** (2 * g - 1), 1))

    def test_not_true(self):
        # [15.6], one after the other.
        told = families(3, 2)
        self.assertGreater(len({many for _, many in told}), 1)
        turned = {led(3, 2, QUINT.f.entries, table, scale) for table, scale in normal_changes(3)}
        self.assertGreater(len({Curve(Poly(3, row)).kind for row in turned}), 1)
        by_l = {}
        for head, _ in told:
            by_l.setdefault(l_of(head), []).append(head)
        shared = [heads for heads in by_l.values() if len(heads) > 1]
        self.assertTrue(shared)
        self.assertIsNone(between(shared[0][0], shared[0][1]))
        self.assertNotEqual(len(told), mass(3, 2)[0])

    def test_wrong_arguments(self):
        primes = wrong(NO_PRIMES, InvalidPrime)
        for call in (count_curves, mass):
            counts = wrong((-1, 100, SIXTY, -SIXTY) + NO_INTEGERS, InvalidCount, "value")
            self.refusals(call, (3, 2), (primes, counts))
        counts = wrong((-1, 4, SIXTY, -SIXTY) + NO_INTEGERS, InvalidCount, "value")
        self.refusals(families, (3, 0), (primes, counts))
        self.refusals(family_of, (QUINT,), (wrong(NO_OBJECTS + (QUINT.f.entries, [QUINT], QUINT.points()), InvalidCurve),))
        for p in (17, 19, 31):
            self.refused(family_of, (Curve(Poly(p, (0, 1))),), TooMany, limit=13)

    def test_too_many(self):
        for p in PRIMES:
            for g in range(4):
                if (p, g) not in WITHIN:
                    self.refused(families, (p, g), TooMany, limit=100000)
        for told in ((31, 4), (31, -1)):
            self.refused(families, told, InvalidCount, value=told[1])


if __name__ == "__main__":
    unittest.main()
