"""[0.12], [5.4], [6.1] to [6.4]: places."""

import unittest

from tests import plain
from tests.plain import NO_INTEGERS, NO_OBJECTS, NO_POLYS, PRIMES, SIXTY, Refusals, wrong
from twinsheets.curve import places as module
from twinsheets.curve.curves import Curve
from twinsheets.curve.places import degree_of, is_place, kind_of, opposite, places, places_over, point_at, point_of
from twinsheets.errors import InvalidCount, InvalidCurve, InvalidOperation, InvalidPlace, InvalidPoly, TooMany
from twinsheets.field.fields import points_walked
from twinsheets.poly.polys import Poly

QUINT, EVEN = Curve.read(3, "x^5+2x+1"), Curve.read(3, "x^6+2x^5+x^4+1")
NONE, SEPT = Curve.read(3, "2x^6+x+1"), Curve.read(3, "x^7+x+1")
FIVE = Curve.read(5, "x^5+x+1")
NO_CURVES = NO_OBJECTS + (QUINT.points(), ("rim", 0), "y^2 = x over 3")
# No places of QUINT, whatever their kind.
NO_PLACES = NO_OBJECTS + (QUINT, ("rim", 1), ("rim", -1), ("rim", False), ["rim", 0], ("rim", 0, 0), ((0, 1), (1, 0)),
                          ((0, 1), ()), ((0, 1), None), ((0, 1), [1]), ([0, 1], (1,)), ((0, 1), (True,)),
                          ((False, 1), (1,)), ((0, 1, 0), (1,)), ((3, 1), (1,)), ((0, 1), (4,)), ((0, 2), (1,)),
                          ((), ()), ((1,), ()), ((1,), None), (None, (1,)), ((0, 1), "x"), ((0, 1), (0, 1)),
                          ((0, 0, 1), (1,)), ((0, 1), (1,), 1), ((1, 0, 1), (1, 0)), ("rim", SIXTY + 1), ("rim", "0"))


def cases():
    """Triples of a prime, the row of a curve, and how great degrees are gone through."""
    for p, many, top in ((3, 2, 3), (5, 1, 3), (7, 1, 2)):
        for row in plain.curve_rows(p, many):
            yield p, row, top


def changed_once(place, p):
    """A place with a change in one spot, in many ways."""
    first, second = place
    yield from ([first, second], (first,), (first, second, second), (second, first), (place,), (list(first), second))
    if first == "rim":
        yield from ((first, s) for s in (-2, -1, 0, 1, p - 1, p, p + 1, True, False, None, (), "0", (second,)))
        yield from (("Rim", second), ("", second), (("rim",), second), (None, second), (b"rim", second))
        return
    for at, entry in enumerate(first):
        for other in (0, 1, 2, p, p + entry, entry - p, -1, True, False, None, str(entry), (entry,), SIXTY + 1):
            yield first[:at] + (other,) + first[at + 1:], second
    yield from ((first + (0,), second), (first + (1,), second), (first[1:], second), (first[:-1], second), ((), second))
    yield from ((first, told) for told in (None, (), (0,), (1,), (p - 1,), (0, 1), (True,), (p,), [], 0, "", "none"))
    if second is not None:
        yield from ((first, list(second)), (first, second + (0,)), (first, second + (1,)), (first, first))
        for at, entry in enumerate(second):
            for other in (0, 1, p - entry, p, entry + p, entry - p, bool(entry), None, (entry,)):
                yield first, second[:at] + (other,) + second[at + 1:]


class PlacesTest(Refusals, unittest.TestCase):
    def test_constant(self):
        self.assertEqual(module.MAX_DEGREE, 8)

    def test_all_against_all_roots(self):
        for p, row, top in cases():
            curve, told = Curve(Poly(p, row)), plain.places(p, row, top)
            for degree in range(1, top + 1):
                expected = [place for place in told if plain.degree_of(place) == degree]
                self.assertEqual(list(places(curve, degree)), expected, (p, row, degree))
            self.assertEqual(tuple(places(curve, 1)), curve.points())

    def test_greater_degrees(self):
        # Twice the degree of an inert place, and over u of the degree 4.
        for curve in (QUINT, EVEN, NONE):
            told = plain.places(3, curve.f.entries, 4)
            self.assertEqual(list(places(curve, 4)), [one for one in told if plain.degree_of(one) == 4])
            self.assertEqual([place for place in places(curve, 6) if place[1] is None],
                             [one for one in told if plain.degree_of(one) == 6])

    def test_each_of_them(self):
        for p, row, top in cases():
            curve = Curve(Poly(p, row))
            for place in plain.places(p, row, min(top, 2)):
                self.assertIs(is_place(curve, place), True)
                self.assertEqual(degree_of(curve, place), plain.degree_of(place))
                turned = opposite(curve, place)
                self.assertEqual(turned, plain.opposite(p, place))
                self.assertEqual(opposite(curve, turned), place)
                self.assertIs(is_place(curve, turned), True)
                first, second = place
                words = {None: "inert", (): "ramified"}
                self.assertEqual(kind_of(curve, place), "rim" if first == "rim" else words.get(second, "split"))
                if kind_of(curve, place) == "ramified":
                    self.assertEqual(plain.rest(p, row, first), ())

    def test_one_kind_for_each_polynomial(self):
        for p, row, top in cases():
            curve = Curve(Poly(p, row))
            for degree in range(1, top + 1):
                for u in plain.monics(p, degree):
                    if not plain.is_irreducible(p, u):
                        self.refused(places_over, (curve, Poly(p, u)), InvalidPoly)
                        continue
                    found = places_over(curve, Poly(p, u))
                    self.assertEqual(found, tuple(plain.places_over(p, row, u)))
                    kinds = [kind_of(curve, place) for place in found]
                    self.assertIn(kinds, (["ramified"], ["inert"], ["split", "split"]))
                    told = {0: ["ramified"], 1: ["split", "split"], -1: ["inert"]}[plain.sign_at(p, row, u)]
                    self.assertEqual(kinds, told)

    def test_changed_in_one_spot(self):
        for p, row, _ in list(cases())[::3]:
            curve = Curve(Poly(p, row))
            held = plain.places(p, row, 2)
            known = {repr(place) for place in plain.places(p, row, 3)}
            for place in held:
                for other in changed_once(place, p):
                    self.assertIs(is_place(curve, other), repr(other) in known, (row, place, other))

    def test_values_of_every_kind(self):
        for value in NO_PLACES:
            self.assertIs(is_place(QUINT, value), False, value)
        for place in QUINT.points():
            self.assertIs(is_place(QUINT, place), True)

    def test_great_places(self):
        # u is irreducible of degree 20, or a product of such.
        from twinsheets.poly.factors import least_irreducible
        u = least_irreducible(3, 20)
        for curve in (QUINT, EVEN, NONE, SEPT):
            found = places_over(curve, u)
            self.assertTrue(all(is_place(curve, place) for place in found))
            self.assertIn([degree_of(curve, place) for place in found], ([20, 20], [40]))
            if len(found) == 2:
                self.assertIs(is_place(curve, (u.entries, None)), False)
                self.assertEqual(opposite(curve, found[0]), found[1])
            both = u * least_irreducible(3, 3)
            for place in found:
                self.assertIs(is_place(curve, (both.entries, place[1])), False)

    def test_places_with_more_entries_than_are_passed_as_a_polynomial(self):
        # Modulo 5, x ** 1024 - 2 is irreducible, as the order of 2 is 4; it has the value 3, which is no square, at 0.
        u, curve = (3,) + (0,) * 1023 + (1,), Curve.read(5, "x")
        self.assertIs(is_place(curve, (u, None)), True)
        self.assertEqual((degree_of(curve, (u, None)), kind_of(curve, (u, None))), (2048, "inert"))
        for value in ((u, ()), (u, (1,)), (u, (1,) * 1001), (u[:-1] + (2,), None), (u + (0,), None), (u[:-1] + (6,), None),
                      (u[:-1] + (True,), None), ((1,) + u[1:], None), ((2,) * 2000 + (1,), None), ((0,) * 4000 + (1,), None)):
            self.assertIs(is_place(curve, value), False)

    def test_points_there_and_back(self):
        for p in PRIMES:
            for row in plain.curve_rows(p):
                curve = Curve(Poly(p, row))
                found = []
                for x in range(p):
                    for y in range(p):
                        if (y * y - plain.value(p, row, x)) % p == 0:
                            place = point_at(curve, x, y)
                            self.assertEqual(point_of(curve, place), (x, y))
                            self.assertEqual(place[0], ((p - x) % p, 1))
                            found.append(place)
                        else:
                            self.refused(point_at, (curve, x, y), InvalidPlace)
                self.assertEqual(sorted(found), sorted(place for place in curve if place[0] != "rim"))

    def test_points_over_fields(self):
        for p, row, top in cases():
            curve = Curve(Poly(p, row))
            for k in range(1, top + 1):
                many = sum(degree * len(list(places(curve, degree))) for degree in range(1, k + 1) if k % degree == 0)
                self.assertEqual(points_walked(curve.f, k), many)
                twist = points_walked(curve.twist().f, k)
                self.assertEqual(many + twist, 2 * p ** k + 2 if k % 2 else 2 * many)

    def test_one_by_one(self):
        made = places(EVEN, 2)
        self.assertEqual([next(made), next(made)], [((2, 1), None), ((2, 2, 1), (1, 1))])
        for args in ((None, None), (EVEN, 0), (EVEN, 9), (FIVE, 5)):
            self.assertRaises((InvalidCurve, InvalidCount, TooMany), next, places(*args))

    def test_bound(self):
        for p, most in ((3, 7), (5, 4), (7, 4), (11, 3), (13, 3), (17, 2), (29, 2), (31, 2)):
            curve = Curve(Poly(p, (1, 1, 0, 1)) if p not in (3, 31) else Poly(p, (1, 2, 0, 1)))
            self.assertEqual(len(next(places(curve, most))), 2)
            for degree in range(most + 1, 9):
                self.refused(lambda *args: next(places(*args)), (curve, degree), TooMany, limit=3000)

    def test_wrong_arguments(self):
        bad = wrong(NO_CURVES, InvalidCurve)
        self.refusals(is_place, (QUINT,  ("rim", 0)), (bad, []))
        no_places = wrong(NO_PLACES, InvalidPlace)
        for call in (degree_of, opposite, kind_of, point_of):
            self.refusals(call, (QUINT, ((0, 1), (1,))), (bad, no_places))
        for place in (("rim", 0), ((1, 0, 1), (1,)), ((1, 2, 0, 0, 0, 1), ())):
            self.refused(point_of, (QUINT, place), InvalidPlace)
        self.refused(point_of, (EVEN, ((2, 1), None)), InvalidPlace)
        self.refused(point_of, (EVEN, ("rim", 1)), InvalidPlace)
        self.refused(point_of, (NONE, ("rim", -1)), InvalidPlace)
        degrees = wrong((0, -1, 9, 20, SIXTY) + NO_INTEGERS, InvalidCount, "value")
        self.refusals(lambda *args: next(places(*args)), (QUINT, 2), (bad, degrees))
        no_polys = [Poly(3, row) for row in ((), (1,), (2,), (0, 2), (0, 0, 1), (2, 0, 1), (1, 0, 2), (0, 1, 0, 1))]
        no_polys += [Poly(5, (1, 0, 1)), Poly(5, (0, 2)), Poly(5, ())]
        self.refusals(places_over, (QUINT, Poly(3, (0, 1))), (bad, wrong(NO_POLYS + tuple(no_polys), InvalidPoly)))
        for poly in (Poly(5, (0, 1)), Poly(7, (1, 1)), Poly(5, (2, 0, 1))):
            self.refused(places_over, (QUINT, poly), InvalidOperation)
            self.refused(places_over, (None, poly), InvalidCurve)
        residues = wrong((3, -1, 5, SIXTY) + NO_INTEGERS, InvalidPlace)
        self.refusals(point_at, (QUINT, 0, 1), (bad, residues, residues))
        self.refused(point_at, (QUINT, 0, 0), InvalidPlace)
        self.refused(point_at, (QUINT, 0, 4), InvalidPlace)
        self.refused(point_at, (QUINT, 3, 1), InvalidPlace)


if __name__ == "__main__":
    unittest.main()
