"""[0.7], [0.11], [6.1], [6.4]: curves."""

import unittest

from tests import plain
from tests.plain import NO_POLYS, NO_PRIMES, PRIMES, Refusals, wrong
from twinsheets.curve import curves
from twinsheets.curve.curves import Curve
from twinsheets.errors import InvalidCurve, InvalidOperation, InvalidPoly, InvalidPrime, ParseError
from twinsheets.field.fields import points_walked
from twinsheets.poly.polys import Poly

QUINT, EVEN = Curve.read(3, "x^5+2x+1"), Curve.read(3, "x^6+2x^5+x^4+1")
NO_TEXTS = (True, False, None, 0, 1, "", " ", "y", "x^2+3", "x+", "+x", "1+x", "1x", "x^1", "x^0", "2*x", "X", "x^-1",
            "x^5+2x+1 ", b"x", ("x",), ["x"], {}, QUINT, Poly(3, (0, 1)), "0x", "x+x", "x^01998", "x+x^1998",
            "x^1998+x^1998", "3x^1998", "1x^1998", "x^1998+0", "x^1998+", "x^", "x^1998x", "x^ 1998", "0x^1998",
            "x^" + "0" * 3000 + "1", "x^" + "9" * 3997 + "a", "x^" + "9" * 1800 + "+x^1" + "0" * 1800,
            "x^1998+3", "x^1998+y", "x^+1998", "x^1998+x^1", "x^1998+2+1", "1998", "x^x")
# Texts of polynomials, though most are longer than what is passed as entries.
LONG_TEXTS = ("x^999", "x^1000", "2x^1000", "x^1998", "x^99999", "2x^1998+x+1", "x^1998+x^1997+2x^2+2", "x^1998+2x^999",
              "x^100000000000000000000", "x^" + "9" * 3998, "x^1" + "0" * 1900 + "+x^" + "9" * 1900 + "+2")


def points_of(p, f):
    """The places of degree 1, by trying all pairs."""
    found = [place for place in plain.rims(p, f) if place != ("rim", -1)]
    for low in range(p):
        x = -low % p
        for y in range(p):
            if (y * y - plain.value(p, f, x)) % p == 0:
                found.append(((low, 1), (y,) if y else ()))
    return found


class CurveTest(Refusals, unittest.TestCase):
    def test_constant(self):
        self.assertEqual(curves.MAX_DEGREE, 8)

    def test_all_that_is_kept(self):
        for p in PRIMES:
            for row in plain.curve_rows(p, 2):
                curve = Curve(Poly(p, row))
                self.assertEqual((curve.f, curve.prime), (Poly(p, row), p))
                self.assertEqual((curve.kind, curve.genus), (plain.kind(p, row), (len(row) - 2) // 2))
                self.assertEqual(curve.rims, tuple(plain.rims(p, row)))
                told = tuple(points_of(p, row))
                self.assertEqual((curve.points(), len(curve), tuple(curve)), (told, len(told), told))
                self.assertEqual(list(curve), list(curve))
                self.assertEqual(str(curve), f"y^2 = {Poly(p, row)} over {p}")

    def test_all_over_three(self):
        for degree in range(1, 5):
            for row in plain.all_curve_rows(3, degree):
                curve = Curve(Poly(3, row))
                self.assertEqual((curve.kind, curve.points()), (plain.kind(3, row), tuple(points_of(3, row))))

    def test_square_free_or_not(self):
        for p, degrees in ((3, range(1, 7)), (5, range(1, 5)), (7, range(1, 4))):
            for degree in degrees:
                for row in plain.monics(p, degree):
                    if plain.is_square_free(p, row):
                        self.assertEqual(Curve(Poly(p, row)).f.entries, row)
                    else:
                        self.refused(Curve, (Poly(p, row),), InvalidCurve)

    def test_reading(self):
        for p in PRIMES:
            for row in plain.curve_rows(p):
                curve = Curve.read(p, str(Poly(p, row)))
                self.assertEqual(curve, Curve(Poly(p, row)))
                self.assertIs(type(curve), Curve)

    def test_long_texts(self):
        for p in (3, 31):
            half = Poly(p, (0,) * 998 + (1, p - 1))
            for poly in (half, half * half, half * half * Poly(p, (0, 1)), half.power(5)):
                self.refused(Curve.read, (p, str(poly)), InvalidCurve)
                self.refused(Curve, (poly,), InvalidCurve)
        for text in LONG_TEXTS[1:]:
            self.refused(Poly.read, (3, text), ParseError, index=0)
        # Entries that are residues of the one prime, but not of the other one.
        self.refused(Curve.read, (31, "30x^1998+3"), InvalidCurve)
        self.refused(Curve.read, (29, "30x^1998+3"), ParseError, index=0)
        self.refused(Curve.read, (29, "2x^1998+29"), ParseError, index=0)
        self.refused(Curve.read, (31, "100x^1998"), ParseError, index=0)

    def test_twist(self):
        for p in PRIMES:
            squares = {w * w % p for w in range(p)}
            least = next(c for c in range(p) if c not in squares)
            for row in plain.curve_rows(p):
                curve = Curve(Poly(p, row))
                twist = curve.twist()
                self.assertEqual(twist.f.entries, plain.scale(p, row, least))
                # Together they have two points for each residue, and two at the rim.
                self.assertEqual(points_walked(curve.f, 1) + points_walked(twist.f, 1), 2 * p + 2)
                self.assertEqual({curve.kind, twist.kind}, {"one"} if len(row) % 2 == 0 else {"two", "none"})

    def test_genus_zero(self):
        for p in PRIMES:
            for row in plain.curve_rows(p, 4)[:12]:
                self.assertEqual(len(Curve(Poly(p, row))), p + 1)

    def test_members(self):
        for p in (3, 5, 7):
            for row in plain.curve_rows(p):
                curve = Curve(Poly(p, row))
                told = {repr(place) for place in points_of(p, row)}
                others = [((low, 1), root) for low in range(p + 1) for root in [(), None, (0,), (True,)]]
                others += [((low, 1), (y,)) for low in range(p + 1) for y in range(p + 1)]
                others += [("rim", s) for s in range(-1, p + 1)] + [("rim", True), ("Rim", 0), ("rim", ())]
                others += [((1, True), (1,)), ((1, True), ()), ([0, 1], ()), ((0, 1), []), ["rim", 0], ("rim", 0, 0)]
                others += plain.places(p, row, 2)
                for place in others:
                    self.assertIs(place in curve, repr(place) in told, (row, place))
        for value in NO_POLYS + (QUINT, EVEN, Poly(3, ()), "rim", ("rim",), ((), ()), (None, None), ("rim", None)):
            self.assertIs(value in QUINT, False)

    def test_equal(self):
        self.assertTrue(QUINT == Curve(Poly(3, (1, 2, 0, 0, 0, 1))))
        self.assertFalse(QUINT != Curve.read(3, "x^5+2x+1"))
        for value in NO_POLYS + (EVEN, QUINT.f, Curve.read(3, "2x^5+x+2"), Curve.read(5, "x^5+2x+1"), str(QUINT)):
            self.assertIs(QUINT == value, False)
            self.assertIs(QUINT != value, True)

    def test_nothing_is_changed(self):
        held = list(QUINT)
        held.clear()
        self.assertEqual((len(QUINT), len(QUINT.points()), QUINT.rims), (7, 7, (("rim", 0),)))

    def test_wrong_arguments(self):
        self.refusals(Curve, (QUINT.f,), (wrong(NO_POLYS + (QUINT, EVEN), InvalidPoly),))
        degrees = (Poly(3, ()), Poly(3, (1,)), Poly(5, (2,)), Poly(7, (1,) + (0,) * 8 + (1,)), Poly(31, (1,) * 1000))
        squares = (Poly(3, (0, 0, 1)), Poly(3, (1, 0, 0, 1)), Poly(5, (1, 2, 1)), Poly(3, (1, 0, 2, 0, 1)))
        self.refusals(Curve, (QUINT.f,), (wrong(degrees + squares, InvalidCurve),))
        self.assertTrue(plain.is_square_free(7, degrees[3].entries))
        texts = [(text, ParseError, None) for text in NO_TEXTS]
        self.refusals(Curve.read, (3, "x"), (wrong(NO_PRIMES, InvalidPrime), texts))
        for text in NO_TEXTS:
            self.refused(Curve.read, (3, text), ParseError, index=0)
        for text in ("0", "1", "2", "x^2", "x^4+2x^2+1", "x^9+x") + LONG_TEXTS:
            self.refused(Curve.read, (3, text), InvalidCurve)
            self.refused(Curve.read, (4, text), InvalidPrime)
        self.assertRaises(TypeError, lambda: QUINT + EVEN)
        self.assertFalse(issubclass(InvalidCurve, InvalidOperation))


if __name__ == "__main__":
    unittest.main()
