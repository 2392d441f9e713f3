"""[5.1] to [5.4]: fields, and the points of curves over them."""

import unittest
from itertools import product

from tests import plain
from tests.plain import NO_INTEGERS, NO_POLYS, NO_PRIMES, PRIMES, SIXTY, Refusals, wrong
from twinsheets.errors import InvalidCount, InvalidCurve, InvalidField, InvalidOperation, InvalidPoly, InvalidPrime
from twinsheets.errors import TooMany
from twinsheets.field import fields
from twinsheets.field.fields import Field, points_off, points_walked
from twinsheets.poly.division import is_square_free
from twinsheets.poly.factors import irreducibles, is_irreducible, least_irreducible
from twinsheets.poly.polys import Poly, poly_at

SMALL = ((3, 1), (3, 2), (3, 3), (5, 1), (5, 2), (7, 1), (7, 2), (11, 1), (31, 1))
LARGE = ((3, 7), (5, 4), (7, 4), (11, 3), (13, 3), (17, 2), (19, 2), (23, 2), (29, 2), (31, 2))
NO_DEGREES = (0, -1, -SIXTY) + NO_INTEGERS
NO_CURVES = NO_POLYS + (Poly(3, ()), Poly(3, (1,)), Poly(3, (2,)), Poly(3, (0, 0, 1)), Poly(5, (1, 2, 1)),
                        Poly(3, (1,) + (0,) * 8 + (1,)), Poly(3, (1,) * 1000), Poly(3, (1, 0, 0, 1)))


class Plain:
    """The same field by polynomials alone."""

    def __init__(self, p, degree):
        self.p = p
        self.modulus = next(row for row in plain.monics(p, degree) if plain.is_irreducible(p, row))

    def added(self, one, other):
        return plain.number(self.p, plain.add(self.p, plain.at(self.p, one), plain.at(self.p, other)))

    def multiplied(self, one, other):
        row = plain.times(self.p, plain.at(self.p, one), plain.at(self.p, other))
        return plain.number(self.p, plain.rest(self.p, row, self.modulus))

    def power(self, one, exponent):
        found = 1
        for _ in range(exponent):
            found = self.multiplied(found, one)
        return found


class FieldTest(Refusals, unittest.TestCase):
    def test_what_is_kept(self):
        self.assertEqual(fields.MAX_SIZE, 3000)
        for p, degree in SMALL + LARGE:
            field = Field(p, degree)
            self.assertEqual((field.prime, field.degree, field.size, len(field)), (p, degree, p ** degree, p ** degree))
            self.assertEqual(field.modulus, least_irreducible(p, degree))
            self.assertEqual(str(field), f"field of {p ** degree} elements by {field.modulus}")
            self.assertEqual(list(field), list(range(p ** degree)))
            self.assertEqual(list(field), list(field))
        self.assertEqual(str(Field(5, 1)), "field of 5 elements by x")

    def test_modulus(self):
        for p, degree in SMALL:
            self.assertEqual(Field(p, degree).modulus.entries, Plain(p, degree).modulus)

    def test_members(self):
        field = Field(3, 2)
        for value in range(9):
            self.assertIs(value in field, True)
        for value in (-1, 9, 10, SIXTY) + NO_INTEGERS:
            self.assertIs(value in field, False)

    def test_equal(self):
        field = Field(3, 2)
        self.assertTrue(field == Field(3, 2))
        self.assertFalse(field != Field(3, 2))
        for value in (Field(3, 1), Field(5, 2), 9, field.modulus) + NO_POLYS:
            self.assertIs(field == value, False)
            self.assertIs(field != value, True)

    def test_sums_and_products(self):
        for p, degree in ((3, 1), (3, 2), (3, 3), (5, 1), (5, 2), (7, 1), (11, 1)):
            field, told = Field(p, degree), Plain(p, degree)
            for one in field:
                for other in field:
                    self.assertEqual(field.added(one, other), told.added(one, other))
                    self.assertEqual(field.multiplied(one, other), told.multiplied(one, other))
                self.assertEqual(field.added(one, field.negative(one)), 0)
                self.assertEqual(field.negative(one), told.multiplied(p - 1, one))

    def test_great_fields(self):
        for p, degree in LARGE:
            field, told = Field(p, degree), Plain(p, degree)
            for k in range(60):
                one, other = (k * k * 7 + 11 * k) % field.size, (field.size - 1 - 37 * k) % field.size
                self.assertEqual(field.added(one, other), told.added(one, other))
                self.assertEqual(field.multiplied(one, other), told.multiplied(one, other))

    def test_inverses(self):
        for p, degree in SMALL + LARGE:
            field = Field(p, degree)
            for one in range(1, field.size):
                self.assertEqual(field.multiplied(one, field.inverse(one)), 1)
            self.refused(field.inverse, (0,), InvalidOperation)

    def test_powers(self):
        for p, degree in SMALL:
            field, told = Field(p, degree), Plain(p, degree)
            for one in field:
                for exponent in (0, 1, 2, 3, 7):
                    self.assertEqual(field.power(one, exponent), told.power(one, exponent))
                self.assertEqual(field.power(one, field.size), one)
                exponent = 10 ** 12 % (field.size - 1)
                self.assertEqual(field.power(one, 10 ** 12), told.power(one, exponent) if one else 0)
            self.assertEqual([field.power(0, 0), field.power(0, 1), field.power(0, 10 ** 12)], [1, 0, 0])

    def test_maker(self):
        for p, degree in SMALL + ((5, 4), (7, 3)):
            field, told = Field(p, degree), Plain(p, degree)
            for one in range(1, field.maker + 1):
                power, many = one, 1
                while power != 1:
                    power, many = told.multiplied(power, one), many + 1
                self.assertEqual(many == field.size - 1, one == field.maker)
        for p, degree in LARGE:
            field = Field(p, degree)
            self.assertEqual({field.power(field.maker, k) for k in range(field.size)}, set(range(1, field.size)))

    def test_values(self):
        for p, degree in SMALL:
            field, told = Field(p, degree), Plain(p, degree)
            for row in plain.some_rows(p, 4, 6) + [(), (2,), (0, 1)]:
                for one in field:
                    value = 0
                    for power, entry in enumerate(row):
                        value = told.added(value, told.multiplied(entry, told.power(one, power)))
                    self.assertEqual(field.value_of(Poly(p, row), one), value)

    def test_squares(self):
        for p, degree in SMALL + ((5, 3), (3, 5)):
            field, told = Field(p, degree), Plain(p, degree)
            found = {}
            for root in field:
                found.setdefault(told.multiplied(root, root), root)
            self.assertEqual(len(found), (field.size + 1) // 2)
            for one in field:
                self.assertIs(field.is_square(one), one in found)
                self.assertEqual(field.root(one), found.get(one))
                if one:
                    self.assertEqual(field.power(one, (field.size - 1) // 2), 1 if one in found else p - 1)
            self.assertEqual(all(field.is_square(one) for one in range(p)), degree % 2 == 0)

    def test_orbits(self):
        for p, degree in SMALL + ((3, 4), (3, 6)):
            field, told = Field(p, degree), Plain(p, degree)
            polys = {}
            for one in field:
                orbit = field.orbit(one)
                self.assertIs(type(orbit), tuple)
                self.assertEqual(orbit[0], one)
                self.assertEqual(len(set(orbit)), len(orbit))
                self.assertEqual(degree % len(orbit), 0)
                for power, further in zip(orbit, orbit[1:] + orbit[:1]):
                    self.assertEqual(told.power(power, p), further)
                least = field.least_poly(one)
                self.assertTrue(is_irreducible(least) and least.is_monic)
                self.assertEqual((least.degree, least.prime), (len(orbit), p))
                self.assertEqual(field.value_of(least, one), 0)
                polys.setdefault(least.number, []).append(one)
                self.assertEqual(set(polys[least.number]) - set(orbit), set())
                total, norm, power = 0, 1, one
                for _ in range(degree):
                    total, norm, power = told.added(total, power), told.multiplied(norm, power), told.power(power, p)
                self.assertEqual((field.trace(one), field.norm_of(one)), (total, norm))
                self.assertTrue(total < p and norm < p)
            expected = [poly.number for d in range(1, degree + 1) if degree % d == 0 for poly in irreducibles(p, d)]
            self.assertEqual(sorted(polys), sorted(expected))
            for number, found in polys.items():
                self.assertEqual(len(found), poly_at(p, number).degree)

    def test_rules(self):
        field = Field(3, 3)
        for one, other in product(field, field):
            third = (one * 5 + other) % 27
            both = field.added(one, other)
            self.assertEqual(both, field.added(other, one))
            self.assertEqual(field.multiplied(third, both),
                             field.added(field.multiplied(third, one), field.multiplied(third, other)))
            self.assertEqual(field.power(both, 3), field.added(field.power(one, 3), field.power(other, 3)))

    def test_bound(self):
        for p, degree in ((3, 8), (5, 5), (7, 5), (11, 4), (13, 4), (17, 3), (31, 3), (3, 1000), (31, SIXTY)):
            self.refused(Field, (p, degree), TooMany, limit=3000)

    def test_wrong_arguments(self):
        self.refusals(Field, (3, 2), (wrong(NO_PRIMES, InvalidPrime), wrong(NO_DEGREES, InvalidCount, "value")))
        self.refused(Field, (4, 9), InvalidPrime)
        field = Field(3, 2)
        no_members = wrong((9, -1, 10, SIXTY) + NO_INTEGERS, InvalidField)
        for call in (field.added, field.multiplied):
            self.refusals(call, (1, 5), (no_members, no_members))
        for call in (field.negative, field.inverse, field.is_square, field.root, field.orbit, field.least_poly,
                     field.trace, field.norm_of):
            self.refusals(call, (1,), (no_members,))
        exponents = wrong((-1, 10 ** 12 + 1, SIXTY) + NO_INTEGERS, InvalidCount, "value")
        self.refusals(field.power, (4, 2), (no_members, exponents))
        self.refusals(field.power, (0, 2), (no_members, exponents))
        polys = wrong(NO_POLYS + (Poly(5, ()), Poly(7, (0, 1))), InvalidPoly)
        self.refusals(field.value_of, (Poly(3, (1, 1)), 5), (polys, no_members))
        self.refusals(field.value_of, (Poly(3, ()), 5), (polys, no_members))

    def test_nothing_is_changed(self):
        field = Field(3, 2)
        orbit, all_of_it = field.orbit(4), list(field)
        all_of_it.clear()
        self.assertEqual((field.orbit(4), len(field), field), (orbit, 9, Field(3, 2)))


class PointsTest(Refusals, unittest.TestCase):
    def check_points(self, f, degree):
        p = f.prime
        field = Field(p, degree)
        told = [(x, y) for x in field for y in field if field.multiplied(y, y) == field.value_of(f, x)]
        self.assertEqual(list(points_off(f, degree)), told)
        rim = 1 if f.degree % 2 else 2 if field.is_square(f.lead) else 0
        self.assertEqual(points_walked(f, degree), len(told) + rim)

    def test_against_all_pairs(self):
        for p, degree in ((3, 1), (3, 2), (3, 3), (5, 1), (5, 2), (7, 1), (11, 1), (31, 1)):
            for row in plain.some_rows(p, 14, 9, seed=p) + [(0, 1), (1, 2), (1, 0, 1), (0, 2, 1), (1, 0, 0, 0, 2)]:
                f = Poly(p, row)
                if 1 <= f.degree <= 8 and is_square_free(f):
                    self.check_points(f, degree)

    def test_rim(self):
        # A lead that is no square is one in the fields of even degree.
        one = Poly(3, (1, 1, 0, 0, 0, 0, 2))
        many = [len(list(points_off(one, degree))) for degree in range(1, 5)]
        self.assertEqual([points_walked(one, degree) for degree in range(1, 5)],
                         [many[0], many[1] + 2, many[2], many[3] + 2])

    def test_curves_of_genus_zero(self):
        for p in PRIMES:
            for row in ((0, 1), (1, 2), (1, 0, 1), (1, 0, p - 1), (2, 0, 3 % p or 2)):
                f = Poly(p, row)
                for degree in (1, 2):
                    self.assertEqual(points_walked(f, degree), p ** degree + 1)

    def test_one_by_one(self):
        made = points_off(Poly(3, (1, 2, 0, 0, 0, 1)), 7)
        first = [next(made) for _ in range(4)]
        self.assertEqual(first, [(0, 1), (0, 2), (1, 1), (1, 2)])
        for args in ((None, None), (Poly(3, (0, 1)), 0), (Poly(3, (0, 1)), 8)):
            self.assertRaises((InvalidCurve, InvalidCount, TooMany), next, points_off(*args))

    def test_bound(self):
        f = Poly(3, (1, 2, 0, 0, 0, 1))
        self.assertEqual(points_walked(f, 7), len(list(points_off(f, 7))) + 1)
        for call in (lambda f, degree: next(points_off(f, degree)), points_walked):
            for degree in (8, 1000, SIXTY):
                self.refused(call, (f, degree), TooMany, limit=3000)

    def test_wrong_arguments(self):
        for call in (lambda f, degree: next(points_off(f, degree)), points_walked):
            self.refusals(call, (Poly(3, (0, 1)), 1),
                          (wrong(NO_CURVES, InvalidCurve), wrong(NO_DEGREES, InvalidCount, "value")))
            self.refused(call, (NO_CURVES[-1], 9), InvalidCurve)
            # The degree 8 is the greatest one of a curve.
            call(Poly(3, (1,) + (0,) * 7 + (1,)), 1)
            further = Poly(7, (1,) + (0,) * 8 + (1,))
            self.assertTrue(is_square_free(further))
            self.refused(call, (further, 1), InvalidCurve)


if __name__ == "__main__":
    unittest.main()
