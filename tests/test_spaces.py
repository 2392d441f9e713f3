"""[0.15], [10.1] to [10.6]: spaces of functions."""

import unittest

from tests import plain
from tests import plain_functions as own
from tests import plain_spaces as far
from tests.plain import NO_OBJECTS, PRIMES, Refusals, wrong
from twinsheets.curve.changes import Change, changed
from twinsheets.curve.curves import Curve
from twinsheets.curve.places import kind_of, places
from twinsheets.divisor import spaces
from twinsheets.divisor.divisors import Divisor, divisor_of, place_divisor
from twinsheets.divisor.functions import Function
from twinsheets.divisor.spaces import are_alike, canonical, function_between, gaps, is_basis, is_between, is_in_space
from twinsheets.divisor.spaces import size_of, space_of
from twinsheets.errors import InvalidCurve, InvalidDivisor, InvalidOperation, InvalidPlace, TooMany
from twinsheets.poly.polys import Poly

QUINT, EVEN = Curve.read(3, "x^5+2x+1"), Curve.read(3, "x^6+2x^5+x^4+1")
NONE, FIVE = Curve.read(3, "2x^6+x+1"), Curve.read(5, "x^5+x+1")
RIM, SPOT, OTHER = ("rim", 0), ((0, 1), (1,)), ((0, 1), (2,))
SOME = Divisor(QUINT, {RIM: 4, SPOT: 2})
X = Function(QUINT, Poly(3, (0, 1)), Poly(3, ()), Poly(3, (1,)))
NO_CURVES = NO_OBJECTS + (QUINT.points(), SOME, X, "y^2 = x over 3", Change(3, 2, (1, 0, 0, 1), 1))
NO_DIVISORS = NO_OBJECTS + (QUINT, {}, {RIM: 1}, "0", (RIM, 1), X)
NO_FUNCTIONS = NO_OBJECTS + (QUINT, SOME, {}, (X,), [X], "x", (Poly(3, (0, 1)), Poly(3, ()), Poly(3, (1,))))


def curves(p, many=1, seed=1):
    return [Curve(Poly(p, row)) for row in plain.curve_rows(p, many, seed)]


def residue(curve, told):
    p = curve.prime
    return Function(curve, Poly(p, (told,)), Poly(p, ()), Poly(p, (1,)))


def zero(curve):
    p = curve.prime
    return Function(curve, Poly(p, ()), Poly(p, ()), Poly(p, (1,)))


def drawn(curve, many, seed=1, top=4):
    """Some divisors, at the rim and off it, with coefficients of both signs."""
    spots = plain.places(curve.prime, curve.f.entries, 2 if curve.prime < 7 else 1)
    state, found = seed, [Divisor(curve, {})]
    for k in range(many):
        table = {}
        for _ in range(k % 5 + 1):
            state = (state * 1103515245 + 12345) % 2 ** 31
            table[spots[state // 65536 % len(spots)]] = state // 7 % (2 * top + 1) - top
        for rim in curve.rims[k % 2:]:
            state = (state * 1103515245 + 12345) % 2 ** 31
            table[rim] = state // 65536 % (4 * top + 1) - 2 * top
        found.append(Divisor(curve, table))
    return found


class SpaceTest(Refusals, unittest.TestCase):
    def test_constant(self):
        self.assertEqual(spaces.MAX_SIZE, 60)

    def test_sizes_against_all_functions(self):
        met, kinds = set(), set()
        for p, each, top in ((3, 2, 7), (5, 1, 5), (7, 1, 4)):
            for row in plain.curve_rows(p, each):
                curve = Curve(Poly(p, row))
                for table in far.some_tables(p, row, 6 if p == 3 else 4, top):
                    divisor = Divisor(curve, table)
                    size = far.size(p, row, table)
                    self.assertEqual(size_of(divisor), size, (p, row, table))
                    self.check_basis(divisor, size)
                    met.add((curve.kind, curve.genus, size > 0))
                    kinds |= {kind_of(curve, place) for place in divisor}
        self.assertEqual(len(met), 24)
        self.assertEqual(kinds, {"rim", "ramified", "split", "inert"})

    def check_basis(self, divisor, size):
        told = space_of(divisor)
        self.assertIsInstance(told, tuple)
        self.assertEqual(len(told), size)
        p, f = divisor.curve.prime, divisor.curve.f.entries
        for function in told:
            self.assertEqual(function.curve, divisor.curve)
            triple = function.a.entries, function.b.entries, function.c.entries
            # No pole anywhere but where it is let: over the factors of c, and at the rim.
            spots = plain.rims(p, f) + [spot for u in plain.parts_of(p, triple[2]) if plain.is_irreducible(p, u)
                                        for spot in plain.places_over(p, f, u)] + list(divisor)
            for place in spots:
                self.assertGreaterEqual(own.order(p, f, triple, place), -divisor.at(place))
            self.assertIs(is_in_space(divisor, function), True)
        self.assertIs(is_basis(divisor, told), True)

    def test_members_against_all_functions(self):
        for p, top in ((3, 6), (5, 4)):
            for row in plain.curve_rows(p, 1, seed=4):
                curve = Curve(Poly(p, row))
                for table in far.some_tables(p, row, 3, top, seed=3):
                    divisor = Divisor(curve, table)
                    for one in far.candidates(p, row, table):
                        function = Function(curve, *plain.polys(p, one))
                        self.assertIs(is_in_space(divisor, function), far.is_member(p, row, table, one), (p, row, table, one))

    def test_members(self):
        for curve in (QUINT, EVEN, NONE, FIVE):
            for divisor in drawn(curve, 6):
                self.assertIs(is_in_space(divisor, zero(curve)), True)
                self.assertIs(is_in_space(divisor, residue(curve, 1)), divisor.is_positive)
                for value in NO_FUNCTIONS[:-4] + ((zero(curve),), [zero(curve)], divisor, curve):
                    self.assertIs(is_in_space(divisor, value), False)
                for other in (QUINT, EVEN, NONE, FIVE):
                    self.assertIs(is_in_space(divisor, zero(other)), other == curve)
                if size_of(divisor) <= 60:
                    for function in space_of(divisor):
                        self.assertTrue(is_in_space(divisor, function + function))
                        self.assertTrue(is_in_space(divisor, -function))
        self.assertIs(is_in_space(Divisor(QUINT, {RIM: 2}), X), True)
        self.assertIs(is_in_space(Divisor(QUINT, {RIM: 1}), X), False)
        self.assertIs(is_in_space(Divisor(QUINT, {RIM: 2, SPOT: -1, OTHER: -1}), X), True)
        self.assertIs(is_in_space(Divisor(QUINT, {RIM: 2, SPOT: -2}), X), False)
        # Poles off the rim that the divisor does not tell of.
        self.assertIs(is_in_space(Divisor(QUINT, {SPOT: 1}), residue(QUINT, 1).over(X)), False)
        self.assertIs(is_in_space(Divisor(QUINT, {SPOT: 1, OTHER: 1}), residue(QUINT, 1).over(X)), True)

    def test_poles_at_a_rim_that_is_not_told(self):
        met = set()
        for curve in (QUINT, EVEN, NONE, FIVE, Curve.read(3, "x^2+1")):
            points = [place for place in plain.places(curve.prime, curve.f.entries, 2) if place[0] != "rim"]
            for place in points:
                for rim in curve.rims:
                    low = place_divisor(curve, place).times(3)
                    for function in space_of(low + place_divisor(curve, rim)):
                        order = function.order_at(rim)
                        met.add((curve.kind, order))
                        self.assertIs(is_in_space(low, function), order >= 0)
        self.assertTrue({("one", -1), ("two", -1), ("none", -1)} <= met)

    def test_bases(self):
        checked = 0
        for p in (3, 5, 7):
            for curve in curves(p):
                for divisor in drawn(curve, 8, seed=p):
                    size = size_of(divisor)
                    if size > 12:
                        continue
                    told = space_of(divisor)
                    self.assertEqual(len(told), size)
                    self.judge(divisor, told)
                    checked += size > 2
        self.assertGreater(checked, 40)

    def judge(self, divisor, told):
        curve = divisor.curve
        p, size = curve.prime, len(told)
        true = [told, told[::-1], tuple([function * residue(curve, 2) for function in told]), tuple([-one for one in told])]
        false = [list(told), told + (residue(curve, 1),), told + (zero(curve),), told + told[:1] + (1,), None, 0, True, "",
                 divisor, {function: 1 for function in ()}, (told,), told + (None,), iter(())]
        false = [value for value in false if not (isinstance(value, tuple) and value == ())]
        if size:
            true.append((told[0] * residue(curve, p - 1),) + told[1:])
            false += [told[1:], told[:-1], (zero(curve),) + told[1:], (None,) + told[1:], ("1",) + told[1:], told[0],
                      (residue(QUINT if curve == EVEN else EVEN, 1),) + told[1:], (1,) * size,
                      tuple([(one.a, one.b, one.c) for one in told])]
        if size > 1:
            true += [(told[0] + told[1],) + told[1:], (told[0] - told[1],) + told[1:]]
            false += [(told[1],) + told[1:], (told[1] + told[1],) + told[1:], told + told[:1]]
        if size > 2:
            true.append((told[0] + told[1] + told[2], told[1] + told[2], told[2]) + told[3:])
            false.append((told[0], told[1], told[0] + told[1]) + told[3:])
            false.append((told[0] + told[1], told[1] + told[2], told[0] - told[2]) + told[3:])
        for value in true:
            self.assertIs(is_basis(divisor, value), True)
        for value in false:
            self.assertIs(is_basis(divisor, value), False)
        # A function outside of the space, in the place of one in it.
        if size:
            out = told[0] * residue(curve, 1).over(Function(curve, Poly(p, (1, 0, 1)), Poly(p, ()), Poly(p, (1,))))
            if not is_in_space(divisor, out):
                self.assertIs(is_basis(divisor, (out,) + told[1:]), False)

    def test_canonical(self):
        for p in PRIMES:
            for curve in curves(p):
                told = canonical(curve)
                g = curve.genus
                many = 2 * g - 2 if curve.kind == "one" else g - 1
                self.assertEqual(told, Divisor(curve, {rim: many for rim in curve.rims}))
                self.assertEqual((told.degree, size_of(told)), (2 * g - 2, g))
                self.assertEqual(size_of(Divisor(curve, {})), 1)
                self.check_basis(told, g)

    def test_sizes_of_two(self):
        for p in (3, 5, 7, 31):
            for curve in curves(p, 2 if p == 3 else 1):
                g, top = curve.genus, canonical(curve)
                for divisor in drawn(curve, 16, seed=p, top=6):
                    size = size_of(divisor)
                    self.assertEqual(size - size_of(top - divisor), divisor.degree + 1 - g)
                    if divisor.degree < 0:
                        self.assertEqual(size, 0)
                    if divisor.degree > 2 * g - 2:
                        self.assertEqual(size, divisor.degree + 1 - g)
                    if divisor.degree == 0:
                        self.assertEqual(size, int(are_alike(divisor, divisor - divisor)))
                    for place in plain.places(p, curve.f.entries, 1)[:6]:
                        grown = size_of(divisor + place_divisor(curve, place))
                        self.assertTrue(size <= grown <= size + plain.degree_of(place))

    def test_spaces_of_alike_divisors(self):
        checked = 0
        for p in (3, 5, 7):
            for curve in curves(p, seed=2):
                for function in far.alike_pairs(Curve, Function, p, curve.f.entries):
                    try:
                        less = divisor_of(function)
                    except OverflowError:
                        continue
                    for divisor in drawn(curve, 4, seed=9):
                        size = size_of(divisor)
                        self.assertEqual(size, size_of(divisor - less))
                        if size < 8:
                            told = tuple([one * function for one in space_of(divisor)])
                            self.assertTrue(is_basis(divisor - less, told))
                            checked += size > 0
                        self.check_alike(divisor, divisor - less, function)
        self.assertGreater(checked, 60)

    def check_alike(self, one, other, function):
        """For a function whose divisor is the difference of two."""
        curve = one.curve
        told = function_between(one, other)
        self.assertIs(are_alike(one, other), True)
        self.assertTrue(told.over(function).is_residue)
        for value in (told, function, -function, function * residue(curve, curve.prime - 1)):
            self.assertIs(is_between(one, other, value), True)
        inverse = residue(curve, 1).over(function)
        self.assertTrue(is_between(other, one, inverse))
        self.assertIs(is_between(one, other, inverse), one == other)
        y = Function(curve, Poly(curve.prime, ()), Poly(curve.prime, (1,)), Poly(curve.prime, (1,)))
        for value in (zero(curve), function * y, None, 0, 1, True, "", (), (told,), curve, one, told.a):
            self.assertIs(is_between(one, other, value), False)

    def test_unlike_divisors(self):
        told = 0
        for p in (3, 5):
            for curve in curves(p, 2, seed=5):
                some = drawn(curve, 14, seed=7, top=2)
                for one in some[:6]:
                    for other in some:
                        less = one - other
                        expected = less.degree == 0 and size_of(-less) == 1
                        self.assertIs(are_alike(one, other), expected)
                        function = function_between(one, other)
                        self.assertEqual(function is not None, expected)
                        if function is None:
                            told += less.degree == 0
                            self.assertFalse(is_between(one, other, residue(curve, 1)))
                        else:
                            self.assertIs(is_between(one, other, function), True)
                            self.assertEqual(divisor_of(function), less)
        self.assertGreater(told, 5)

    def test_great_divisors(self):
        # The difference of two divisors may have greater coefficients than one divisor.
        for curve, u in ((QUINT, (0, 1)), (EVEN, (2, 2, 1)), (FIVE, (3, 1))):
            p = curve.prime
            low = Function(curve, Poly(p, u), Poly(p, ()), Poly(p, (1,)))
            one = divisor_of(low.power(30 if curve is QUINT else 10))
            self.check_alike(one, -one, low.power(60 if curve is QUINT else 20))
            steep = one.times(200 // max(abs(many) for many in one.table.values()))
            self.assertTrue(are_alike(steep, -steep))
            self.assertFalse(are_alike(steep, -one + place_divisor(curve, curve.rims[0])))
        for spot in (SPOT, OTHER):
            great = Divisor(QUINT, {spot: 200, RIM: -200})
            # The class of the difference has an order of 29: 200 is 203 less 3.
            self.assertTrue(are_alike(great, Divisor(QUINT, {spot: -3, RIM: 3})))
            self.assertEqual(size_of(great), 0)
            self.assertEqual(size_of(Divisor(QUINT, {spot: 200, RIM: -197})), 2)

    def test_rims_apart(self):
        # Poles at the one place of the rim, zeros at the other one.
        for p, text in ((3, "x^6+2x^5+x^4+1"), (3, "x^8+x+2"), (5, "x^4+x+1"), (7, "2x^6+x+1"), (3, "x^2+1")):
            curve = Curve.read(p, text)
            first, second = curve.rims
            for many in (1, 2, 3, 4, 5, 6, 7, 12, 40, 200):
                for one, other in ((first, second), (second, first)):
                    divisor = Divisor(curve, {one: many, other: -many + curve.genus})
                    self.assertGreaterEqual(size_of(divisor), 1)
                    if many < 7:
                        self.check_basis(divisor, size_of(divisor))
                    for function in space_of(divisor):
                        self.assertTrue(function.c.degree == 0 and is_in_space(divisor, function))
                        self.assertGreaterEqual(function.order_at(one), -many)
                        self.assertGreaterEqual(function.order_at(other), many - curve.genus)
                    self.assertEqual(size_of(divisor) - size_of(canonical(curve) - divisor) if many < 200 else 1,
                                     divisor.degree + 1 - curve.genus)

    def test_gaps(self):
        for p in PRIMES[:6]:
            for curve in curves(p, 2 if p == 3 else 1):
                g = curve.genus
                for place in curve.points():
                    told = gaps(curve, place)
                    sizes = [size_of(Divisor(curve, {place: many})) for many in range(2 * g + 2)]
                    self.assertEqual(told, tuple(n for n in range(1, 2 * g + 2) if sizes[n] == sizes[n - 1]))
                    odd = place[1] == () or (place[0] == "rim" and curve.kind == "one")
                    self.assertEqual(told, tuple(range(1, 2 * g, 2)) if odd else tuple(range(1, g + 1)))
                    self.assertEqual(len(told), g)

    def test_not_true(self):
        # [10.6], one after the other.
        rim = place_divisor(QUINT, RIM)
        self.assertLess(size_of(rim.times(2) + rim.times(-1)), size_of(rim.times(2)) + size_of(rim.times(-1)))
        self.assertEqual((QUINT.genus, size_of(rim.times(2))), (2, 2))
        self.assertTrue(is_in_space(Divisor(QUINT, {RIM: 2, SPOT: -1}), X))
        one, other = place_divisor(QUINT, SPOT), place_divisor(QUINT, OTHER)
        self.assertEqual((one.degree, size_of(one)), (other.degree, size_of(other)))
        self.assertFalse(are_alike(one, other))

    def test_too_many(self):
        for curve in (QUINT, EVEN, NONE, FIVE):
            g, spot = curve.genus, next(places(curve, 1)) if curve is not NONE else curve.points()[0]
            for many in (59 + g, 60 + g):
                divisor = Divisor(curve, {spot: many})
                self.assertEqual(size_of(divisor), many + 1 - g)
                if many == 59 + g:
                    told = space_of(divisor)
                    self.assertEqual(len(told), 60)
                    self.assertTrue(is_basis(divisor, told))
                    self.assertFalse(is_basis(divisor, told[1:]))
                    self.assertFalse(is_basis(divisor, told[1:] + told[2:3]))
                else:
                    self.refused(space_of, (divisor,), TooMany, limit=60)
                    for value in (None, (), (residue(curve, 1),) * 61, (residue(curve, 1),) * 60):
                        self.refused(is_basis, (divisor, value), TooMany, limit=60)
                    self.assertTrue(is_in_space(divisor, residue(curve, 1)))
        great = Divisor(QUINT, {place: 200 for place in plain.places(3, QUINT.f.entries, 3)})
        self.assertEqual(size_of(great), great.degree - 1)
        self.refused(space_of, (great,), TooMany, limit=60)

    def test_wrong_arguments(self):
        bad = wrong(NO_DIVISORS, InvalidDivisor)
        for call in (space_of, size_of):
            self.refusals(call, (SOME,), (bad,))
        for call in (is_in_space, is_basis):
            for value in NO_DIVISORS:
                for other in (X, (), None):
                    self.refused(call, (value, other), InvalidDivisor)
        self.refusals(canonical, (QUINT,), (wrong(NO_CURVES, InvalidCurve),))
        for call in (function_between, are_alike):
            self.refusals(call, (SOME, SOME), (bad, bad))
            self.refused(call, (SOME, Divisor(EVEN, {})), InvalidOperation)
        for value in NO_DIVISORS:
            for other in (X, None, value):
                self.refused(is_between, (value, SOME, other), InvalidDivisor)
                self.refused(is_between, (SOME, value, other), InvalidDivisor)
                self.refused(is_between, (value, Divisor(EVEN, {}), other), InvalidDivisor)
        for value in (X, None, SOME):
            self.refused(is_between, (SOME, Divisor(EVEN, {}), value), InvalidOperation)
        # Equal curves need not be one object.
        self.assertTrue(are_alike(SOME, Divisor(Curve.read(3, "x^5+2x+1"), {RIM: 4, SPOT: 2})))
        no_places = NO_OBJECTS + (("rim", 1), ("rim", False), ["rim", 0], ((0, 1), ()), ((0, 1), (True,)), QUINT, SOME,
                                  ((1, 0, 1), (1,)), ((1, 2, 0, 0, 0, 1), ()))
        self.refusals(gaps, (QUINT, RIM), (wrong(NO_CURVES, InvalidCurve), wrong(no_places, InvalidPlace)))
        self.refused(gaps, (NONE, ("rim", -1)), InvalidPlace)
        self.refused(gaps, (EVEN, ((2, 1), None)), InvalidPlace)


if __name__ == "__main__":
    unittest.main()
