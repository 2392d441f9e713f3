"""[0.13], [8.1] to [8.4], [8.6], [8.7]: the polynomial L of a curve."""

import unittest
from fractions import Fraction
from itertools import product

from tests import plain
from tests.plain import NO_INTEGERS, NO_OBJECTS, PRIMES, SIXTY, Refusals, wrong
from twinsheets.curve.curves import Curve
from twinsheets.curve.places import places
from twinsheets.errors import InvalidCount, InvalidCurve, TooMany
from twinsheets.field.fields import points_walked
from twinsheets.poly.polys import Poly
from twinsheets.zeta import counts
from twinsheets.zeta.bounds import are_bounded
from twinsheets.zeta.counts import by_points, by_signs, by_table, class_number, l_of, l_over, places_of, points_over
from twinsheets.zeta.counts import sum_of_signs, table_of

QUINT, EVEN = Curve.read(3, "x^5+2x+1"), Curve.read(3, "x^6+2x^5+x^4+1")
NO_CURVES = NO_OBJECTS + (QUINT.points(), (1, 3, 7, 9, 9), "y^2 = x over 3")
# The genus 3 over 17, and the genera 3 over 29 and 31: more than 3000 members.
TOO_GREAT = [Curve(Poly(p, (1, 3, 0, 0, 0, 0, 0, 1))) for p in (17, 19, 31)]


def curves(many=1, most=3000):
    """Curves of every kind and genus whose fields are not too great."""
    for p in PRIMES:
        for row in plain.curve_rows(p, many):
            if p ** plain.genus(row) <= most:
                yield Curve(Poly(p, row))


def l_plain(curve):
    """L by the numbers of points over the fields, gone through, with the further entries told by the first ones."""
    p, g = curve.prime, curve.genus
    s = [None] + [p ** k + 1 - points_walked(curve.f, k) for k in range(1, g + 1)]
    found = [1]
    for k in range(1, g + 1):
        found.append(-sum(s[i] * found[k - i] for i in range(1, k + 1)) // k)
    return tuple(found) + tuple(p ** (g - i) * found[i] for i in range(g))[::-1]


def times(one, other):
    return [[sum(a * b for a, b in zip(line, column)) for column in zip(*other)] for line in one]


def companion(entries):
    """A table whose characteristic roots are the reciprocal roots."""
    size = len(entries) - 1
    lines = [[int(k == j + 1) for k in range(size)] for j in range(size - 1)]
    return lines + [[-entries[size - k] for k in range(size)]] if size else []


def power(table, exponent):
    found = [[int(i == j) for j in range(len(table))] for i in range(len(table))]
    for _ in range(exponent):
        found = times(found, table)
    return found


def reversed_roots(table):
    """The entries of det(1 - T table), by traces of powers."""
    found, traces, held = [Fraction(1)], [None], table
    for k in range(1, len(table) + 1):
        traces.append(sum(held[i][i] for i in range(len(table))))
        found.append(-sum(traces[i] * found[k - i] for i in range(1, k + 1)) / Fraction(k))
        held = times(held, table)
    return tuple(int(entry) for entry in found)


class LTest(Refusals, unittest.TestCase):
    def test_constants(self):
        self.assertEqual((counts.MAX_WALKED, counts.MAX_FAR), (3000, 200))

    def test_by_points_against_the_fields(self):
        for curve in list(curves(2, 400)) + list(curves(1))[::3]:
            told = l_plain(curve)
            self.assertEqual(by_points(curve), told, curve.f)
            self.assertEqual(l_of(curve), told)
            self.assertIs(type(by_points(curve)), tuple)
            self.assertEqual(len(told), 2 * curve.genus + 1)

    def test_all_ways_agree(self):
        for curve in curves(3):
            told = by_points(curve)
            self.assertEqual((by_signs(curve), l_of(curve), class_number(curve)), (told, told, sum(told)))
            self.assertEqual(by_table(curve), tuple(entry % curve.prime for entry in told[:curve.genus + 1]))
            g, p = curve.genus, curve.prime
            self.assertEqual([told[2 * g - i] for i in range(g + 1)], [p ** (g - i) * told[i] for i in range(g + 1)])
            self.assertIs(are_bounded(p, told), True)
            self.assertGreaterEqual(class_number(curve), 1)

    def test_one_more_number_of_points(self):
        for curve in curves(2):
            if curve.prime ** (curve.genus + 1) <= 700:
                for k in range(curve.genus + 1, 7):
                    if curve.prime ** k <= 3000 and (k == curve.genus + 1 or curve.prime == 3):
                        self.assertEqual(points_over(curve, k), points_walked(curve.f, k))

    def test_genus_zero(self):
        for p in PRIMES:
            for row in plain.curve_rows(p)[:3]:
                curve = Curve(Poly(p, row))
                self.assertEqual((by_points(curve), by_signs(curve), by_table(curve), table_of(curve)), ((1,), (1,), (1,), ()))
                self.assertEqual((class_number(curve), l_over(curve, 20)), (1, (1,)))
                self.assertEqual([points_over(curve, k) for k in (1, 2, 200)], [p + 1, p * p + 1, p ** 200 + 1])

    def test_twist(self):
        for curve in curves(2):
            told = l_of(curve)
            self.assertEqual(l_of(curve.twist()), tuple((-1) ** i * entry for i, entry in enumerate(told)))
            for k in (1, 2, 3):
                both = points_over(curve, k) + points_over(curve.twist(), k)
                self.assertEqual(both, 2 * curve.prime ** k + 2 if k % 2 else 2 * points_over(curve, k))

    def test_squares_in_the_place_of_x(self):
        for p in (3, 5, 7, 11, 13):
            for degree in (2, 3, 4):
                for row in [row for row in plain.some_rows(p, 200, 5, seed=2) if len(row) == degree + 1][:6]:
                    if row[0] and plain.is_square_free(p, row):
                        doubled = tuple(row[k // 2] if k % 2 == 0 else 0 for k in range(2 * degree + 1))
                        one, other = l_of(Curve(Poly(p, row))), l_of(Curve(Poly(p, (0,) + row)))
                        told = [0] * (len(one) + len(other) - 1)
                        for (i, a), (j, b) in product(enumerate(one), enumerate(other)):
                            told[i + j] += a * b
                        self.assertEqual(l_of(Curve(Poly(p, doubled))), tuple(told), (p, row))


class SignsTest(Refusals, unittest.TestCase):
    def test_sums_of_signs(self):
        for p, most in ((3, 4), (5, 2), (7, 2)):
            for row in plain.curve_rows(p):
                curve = Curve(Poly(p, row))
                for degree in range(most + 1):
                    told = sum(plain.sign(p, row, u) for u in plain.monics(p, degree))
                    self.assertEqual(sum_of_signs(curve, degree), told, (p, row, degree))

    def test_all_degrees(self):
        for curve in curves(2):
            p, told = curve.prime, l_of(curve)
            one = {"one": 0, "two": -1, "none": 1}[curve.kind]
            sums = [a + one * b for a, b in zip(told + (0,), (0,) + told)]
            for degree in range(21):
                if p ** degree > 3000:
                    self.refused(sum_of_signs, (curve, degree), TooMany, limit=3000)
                    continue
                self.assertEqual(sum_of_signs(curve, degree), sums[degree] if degree < len(sums) else 0)
                if degree >= curve.f.degree:
                    self.assertEqual(sum_of_signs(curve, degree), 0)


class TableTest(unittest.TestCase):
    def test_entries(self):
        for p in PRIMES:
            for row in plain.curve_rows(p, 1 if p > 7 else 3):
                curve, high = Curve(Poly(p, row)), plain.power(p, row, (p - 1) // 2)
                g = curve.genus
                told = tuple(tuple((high + (0,) * p * g)[i * p - j] for j in range(1, g + 1)) for i in range(1, g + 1))
                self.assertEqual(table_of(curve), told)

    def test_determinant(self):
        """Also where L itself is not told: the first entries are known by points."""
        for p in PRIMES:
            for row in plain.curve_rows(p, 2):
                curve = Curve(Poly(p, row))
                found, g = by_table(curve), curve.genus
                self.assertEqual((len(found), found[0]), (g + 1, 1))
                self.assertTrue(all(type(entry) is int and 0 <= entry < p for entry in found))
                s = [None] + [p ** k + 1 - points_walked(curve.f, k) for k in range(1, min(g, 2 if p < 11 else 1) + 1)]
                told = [1]
                for k in range(1, len(s)):
                    told.append(-sum(s[i] * told[k - i] for i in range(1, k + 1)) // k)
                self.assertEqual(found[:len(told)], tuple(entry % p for entry in told))
                if p ** g <= 3000:
                    self.assertEqual(found, tuple(entry % p for entry in l_of(curve)[:g + 1]))


class FarTest(Refusals, unittest.TestCase):
    def test_points_by_powers_of_the_roots(self):
        for curve in list(curves())[::2]:
            table, held = companion(l_of(curve)), None
            for k in range(1, 201):
                held = times(held, table) if held else table
                trace = sum(held[i][i] for i in range(len(table)))
                if k < 12 or k % 19 == 0 or k == 200:
                    self.assertEqual(points_over(curve, k), curve.prime ** k + 1 - trace)

    def test_places_by_listing(self):
        for curve in curves(2):
            for degree in range(1, 9):
                if curve.prime ** degree <= (3000 if curve.prime == 3 else 700):
                    self.assertEqual(places_of(curve, degree), len(list(places(curve, degree))))

    def test_places_tell_points(self):
        for curve in list(curves())[::3]:
            many = {k: places_of(curve, k) for k in (1, 2, 3, 4, 5, 6, 10, 12, 25, 50, 60, 100, 199, 200, 8, 20, 40, 15, 30)}
            for k in (1, 2, 3, 4, 5, 6, 8, 10, 12, 20, 25, 40, 50, 60, 100, 199, 200):
                told = sum(d * many[d] for d in many if k % d == 0)
                self.assertEqual(points_over(curve, k), told)

    def test_l_over(self):
        for curve in curves():
            table = companion(l_of(curve))
            for k in (1, 2, 3, 5, 8, 13, 20):
                found = l_over(curve, k)
                self.assertIs(type(found), tuple)
                self.assertEqual(found, reversed_roots(power(table, k)))
                self.assertEqual(sum(found) % class_number(curve), 0)
            self.assertEqual(l_over(curve, 1), l_of(curve))

    def test_one_behind_the_other(self):
        for curve in list(curves())[::3]:
            for one, other in ((2, 3), (3, 2), (4, 5), (2, 10), (7, 2)):
                table = companion(l_over(curve, one))
                self.assertEqual(l_over(curve, one * other), reversed_roots(power(table, other)))

    def test_l_over_tells_points(self):
        for curve in list(curves())[::3]:
            for k in (2, 3):
                self.assertEqual(points_over(curve, k), curve.prime ** k + 1 + (l_over(curve, k) + (0,))[1])


class NotTrueTest(unittest.TestCase):
    def test_not_true(self):
        every = [Curve(Poly(3, row)) for degree in (5, 6) for row in plain.all_curve_rows(3, degree)]
        told = {l_of(curve) for curve in every}
        # Each tuple that is turned about and bounded is the L of a curve.
        near = [(1, a, b, 3 * a, 9) for a, b in product(range(-7, 8), range(-20, 21))]
        self.assertTrue(any(are_bounded(3, one) and one not in told for one in near))
        # The table tells L; the entry 1 of L, that is the number of points over p members, tells it.
        tables, firsts = {}, {}
        for curve in every:
            tables.setdefault(table_of(curve), set()).add(l_of(curve))
            firsts.setdefault((l_of(curve)[1], points_over(curve, 1)), set()).add(l_of(curve))
        self.assertTrue(any(len(some) > 1 for some in tables.values()))
        self.assertTrue(any(len(some) > 1 for some in firsts.values()))
        # The number of classes of a curve and that of its twist are equal.
        self.assertNotEqual(class_number(QUINT), class_number(QUINT.twist()))


class WrongTest(Refusals, unittest.TestCase):
    def test_wrong_arguments(self):
        bad = wrong(NO_CURVES, InvalidCurve)
        for call in (by_points, by_signs, table_of, by_table, l_of, class_number):
            self.refusals(call, (QUINT,), (bad,))
        for call, least, most in ((points_over, 1, 200), (places_of, 1, 200), (l_over, 1, 20), (sum_of_signs, 0, 20)):
            degrees = wrong((least - 1, most + 1, -1, -5, 1000, SIXTY) + NO_INTEGERS, InvalidCount, "value")
            self.refusals(call, (QUINT, 2), (bad, degrees))
            for curve in TOO_GREAT:
                self.refused(call, (curve, most + 1), InvalidCount, value=most + 1)

    def test_bounds(self):
        for curve in TOO_GREAT:
            for call in (by_points, by_signs, l_of, class_number):
                self.refused(call, (curve,), TooMany, limit=3000)
            for call in (points_over, places_of, l_over):
                for degree in (1, 20):
                    self.refused(call, (curve, degree), TooMany, limit=3000)
            self.assertEqual((len(by_table(curve)), len(table_of(curve))), (4, 3))
            # 17 ** 2 polynomials are few enough.
            self.assertEqual(sum_of_signs(curve, 0), 1)
            self.assertEqual(sum_of_signs(curve, 1), sum(plain.sign(curve.prime, curve.f.entries, u)
                                                         for u in plain.monics(curve.prime, 1)))
        for p in (13, 31):
            curve = Curve(Poly(p, (1, 3, 0, 0, 0, 0, 0, 1) if p == 13 else (1, 2, 0, 0, 0, 1)))
            self.assertEqual(len(l_of(curve)), 7 if p == 13 else 5)


if __name__ == "__main__":
    unittest.main()
