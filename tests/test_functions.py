"""[0.12], [9.1] to [9.3]: functions."""

import unittest

from tests import plain
from tests import plain_functions as own
from tests.plain import NO_INTEGERS, NO_OBJECTS, NO_POLYS, PRIMES, SIXTY, Refusals, wrong
from twinsheets.curve.curves import Curve
from twinsheets.curve.places import opposite
from twinsheets.divisor import functions
from twinsheets.divisor.divisors import Divisor, divisor_of
from twinsheets.divisor.functions import Function
from twinsheets.errors import InvalidCount, InvalidCurve, InvalidFunction, InvalidOperation, InvalidPlace, InvalidPoly
from twinsheets.poly.polys import Poly

QUINT, EVEN = Curve.read(3, "x^5+2x+1"), Curve.read(3, "x^6+2x^5+x^4+1")
NONE, FIVE = Curve.read(3, "2x^6+x+1"), Curve.read(5, "x^5+x+1")
ONE, X, ZERO = Poly(3, (1,)), Poly(3, (0, 1)), Poly(3, ())
Y = Function(QUINT, ZERO, ONE, ONE)
NOTHING = Function(QUINT, ZERO, ZERO, X)
NO_CURVES = NO_OBJECTS + (QUINT.points(), Y, "y^2 = x over 3")
NO_FUNCTIONS = NO_OBJECTS + (QUINT, (ZERO, ONE, ONE), "0+(1)y", Divisor(QUINT, {}))
# No places of QUINT.
NO_PLACES = NO_OBJECTS + (("rim", 1), ("rim", False), ["rim", 0], ((0, 1), ()), ((0, 1), None), ((0, 1), (True,)), ((2,), ()),
                          ((0, 0, 1), (1,)), ((0, 1), [1]), QUINT, Y)


def made(curve, triple):
    return Function(curve, *plain.polys(curve.prime, triple))


def rows(function):
    return function.a.entries, function.b.entries, function.c.entries


def cases(many=3):
    """Triples of a prime, a curve, and some triples of rows."""
    for p, each in ((3, 2), (5, 1), (7, 1), (31, 1)):
        for k, row in enumerate(plain.curve_rows(p, each)):
            yield p, Curve(Poly(p, row)), own.some_triples(p, row, many, seed=k + 1)


class TermsTest(Refusals, unittest.TestCase):
    def test_constant(self):
        self.assertEqual(functions.MAX_POWER, 60)

    def test_least_terms(self):
        for p, curve, triples in cases():
            for triple in triples:
                for factor in ((1,), (2,), (0, 1), (1, 2, 1), (p - 1, 0, 2)):
                    told = tuple(plain.times(p, row, factor) for row in triple)
                    function = made(curve, told)
                    self.assertTrue(own.is_least(p, rows(function)))
                    self.assertTrue(own.are_equal(p, rows(function), triple))
                    self.assertEqual(function, made(curve, triple))
                    self.assertEqual((function.curve, function.a.prime, function.c.prime), (curve, p, p))

    def test_zero(self):
        for c in (ONE, X, Poly(3, (2,)), Poly(3, (1, 1, 2))):
            function = Function(QUINT, ZERO, ZERO, c)
            self.assertEqual(rows(function), ((), (), (1,)))
            self.assertEqual((function.is_zero, function.is_residue, str(function)), (True, True, "0"))
            self.assertEqual([part.entries for part in function.norm], [(), (1,)])

    def test_words(self):
        for triple, told in ((((), (1,), (1,)), (False, False)), (((1,), (), (1,)), (False, True)),
                             (((2,), (), (2,)), (False, True)), (((0, 1), (), (0, 2)), (False, True)),
                             (((0, 1), (), (1,)), (False, False)), (((1,), (), (0, 1)), (False, False)),
                             (((1,), (1,), (1,)), (False, False)), (((), (), (0, 1)), (True, True))):
            function = made(QUINT, triple)
            self.assertIs(function.is_zero, told[0])
            self.assertIs(function.is_residue, told[1])

    def test_text(self):
        for triple, told in ((((2,), (1,), (0, 1)), "(2+(1)y)/(x)"), (((), (1,), (1,)), "0+(1)y"),
                             (((), (1, 2), (1,)), "0+(2x+1)y"), (((0, 0, 1, 1), (1,), (1,)), "x^3+x^2+(1)y"),
                             (((1, 1), (), (1,)), "x+1"), (((1, 1), (), (0, 1)), "(x+1)/(x)"), (((), (), (0, 1)), "0"),
                             (((), (2,), (1, 2)), "(0+(1)y)/(x+2)"), (((2,), (), (1,)), "2")):
            self.assertEqual(str(made(QUINT, triple)), told)

    def test_equal(self):
        for p, curve, triples in list(cases())[::2]:
            for one in triples[::2]:
                for other in triples:
                    self.assertIs(made(curve, one) == made(curve, other), own.are_equal(p, one, other))
                    self.assertIs(made(curve, one) != made(curve, other), not own.are_equal(p, one, other))
        for value in NO_FUNCTIONS + (Function(EVEN, ZERO, ONE, ONE), NOTHING, Y * Y, -Y):
            self.assertIs(Y == value, False)
            self.assertIs(Y != value, True)

    def test_wrong_arguments(self):
        bad, polys = wrong(NO_CURVES, InvalidCurve), wrong(NO_POLYS + (Y, QUINT), InvalidPoly)
        self.refusals(Function, (QUINT, X, ONE, ONE), (bad, polys, polys, polys))
        other = Poly(5, (1,))
        for args in ((other, ONE, ONE), (ONE, other, ONE), (ONE, ONE, other), (X, X, ZERO), (ZERO, ZERO, ZERO),
                     (Poly(5, ()), ZERO, ONE), (ZERO, ZERO, Poly(5, ()))):
            self.refused(Function, (QUINT,) + args, InvalidOperation)
        self.refused(Function, (QUINT, other, None, ZERO), InvalidPoly)
        self.refused(Function, (QUINT, other, ZERO, 1), InvalidPoly)


class ReckoningTest(Refusals, unittest.TestCase):
    def check(self, p, function, told):
        self.assertTrue(own.is_least(p, rows(function)))
        self.assertTrue(own.are_equal(p, rows(function), told))

    def test_sums_and_products(self):
        for p, curve, triples in cases():
            f = curve.f.entries
            for one in triples:
                first = made(curve, one)
                self.check(p, -first, own.minus(p, one))
                self.check(p, first.opposite(), own.opposite(p, one))
                top, bottom = own.norm(p, f, one)
                told, below = first.norm
                self.assertEqual(plain.times(p, told.entries, bottom), plain.times(p, below.entries, top))
                self.assertTrue(below.is_monic and plain.common(p, told.entries, below.entries) == (1,))
                self.assertEqual(first * first.opposite(), Function(curve, told, Poly(p, ()), below))
                for other in triples[::3]:
                    second = made(curve, other)
                    self.check(p, first + second, own.plus(p, one, other))
                    self.check(p, first - second, own.plus(p, one, own.minus(p, other)))
                    self.check(p, first * second, own.times(p, f, one, other))
                    if not second.is_zero:
                        self.check(p, first.over(second), own.times(p, f, one, own.inverse(p, f, other)))
                self.assertTrue((first - first).is_zero)
                if not first.is_zero:
                    self.assertEqual(rows(first.over(first)), ((1,), (), (1,)))

    def test_powers(self):
        for p, curve, triples in list(cases(1))[::3]:
            f = curve.f.entries
            for one in triples[:3]:
                function = made(curve, one)
                if function.is_zero:
                    continue
                told = ((1,), (), (1,))
                for exponent in range(6):
                    self.check(p, function.power(exponent), told)
                    self.check(p, function.power(-exponent), own.inverse(p, f, told))
                    told = own.times(p, f, told, one)

    def test_great_powers(self):
        for curve, triple in ((QUINT, ((2,), (1,), (0, 1))), (EVEN, ((0, 0, 1, 1), (1,), (1,))), (FIVE, ((1, 2), (3,), (2, 1)))):
            function = made(curve, triple)
            held = made(curve, ((1,), (), (1,)))
            for exponent in range(61):
                if exponent % 7 == 0 or exponent in (59, 60):
                    self.assertEqual(function.power(exponent), held)
                    self.assertEqual(function.power(-exponent) * held, made(curve, ((1,), (), (1,))))
                held = held * function
        self.assertEqual(function.power(60).over(function.power(-60)), function.power(60) * function.power(60))

    def test_powers_of_zero(self):
        self.assertEqual([str(NOTHING.power(many)) for many in (0, 1, 60)], ["1", "0", "0"])
        for many in (-1, -60):
            self.refused(NOTHING.power, (many,), InvalidOperation)
        self.refused(NOTHING.power, (-61,), InvalidCount, value=-61)

    def test_square_of_y(self):
        for p in PRIMES:
            for row in plain.curve_rows(p):
                curve = Curve(Poly(p, row))
                y = made(curve, ((), (1,), (1,)))
                self.assertEqual(y * y, made(curve, (row, (), (1,))))
                self.assertEqual([part.entries for part in y.norm], [plain.scale(p, row, p - 1), (1,)])

    def test_wrong_operands(self):
        for value in NO_FUNCTIONS:
            for call in (lambda a, b: a + b, lambda a, b: a - b, lambda a, b: a * b):
                self.assertRaises(TypeError, call, Y, value)
                self.assertRaises(TypeError, call, value, Y)
        for value in (Function(EVEN, ZERO, ONE, ONE), Function(FIVE, Poly(5, ()), Poly(5, (1,)), Poly(5, (1,)))):
            for call in (lambda a, b: a + b, lambda a, b: a - b, lambda a, b: a * b, lambda a, b: a.over(b)):
                self.refused(call, (Y, value), InvalidOperation)
                self.refused(call, (value, Y), InvalidOperation)
        self.refusals(Y.over, (Y,), (wrong(NO_FUNCTIONS, InvalidFunction),))
        self.refused(Y.over, (NOTHING,), InvalidOperation)
        self.refused(NOTHING.over, (NOTHING,), InvalidOperation)
        self.refusals(Y.power, (2,), (wrong((-61, 61, 100, SIXTY) + NO_INTEGERS, InvalidCount, "value"),))
        self.assertRaises(TypeError, iter, Y)


class OrdersTest(Refusals, unittest.TestCase):
    def test_orders(self):
        kinds = set()
        for p, curve, triples in cases():
            spots = plain.places(p, curve.f.entries, 2 if p < 7 else 1)
            for triple in triples:
                function = made(curve, triple)
                if function.is_zero:
                    continue
                for place in spots if p < 31 else spots[:12]:
                    told = own.order(p, curve.f.entries, triple, place)
                    self.assertEqual(function.order_at(place), told, (p, curve.f, triple, place))
                    self.assertEqual(function.opposite().order_at(place), function.order_at(opposite(curve, place)))
                    word = curve.kind if place[0] == "rim" else {None: "inert", (): "ramified"}.get(place[1], "split")
                    kinds.add((word, (told > 0) - (told < 0)))
        self.assertEqual(len(kinds), 18, kinds)

    def test_products_and_sums(self):
        for p, curve, triples in list(cases(2))[::2]:
            spots = plain.places(p, curve.f.entries, 2 if p < 5 else 1)[:12]
            some = [made(curve, triple) for triple in triples]
            for one in some:
                for other in some[::2]:
                    both, total = one * other, one + other
                    for place in spots:
                        if one.is_zero or other.is_zero:
                            continue
                        orders = one.order_at(place), other.order_at(place)
                        self.assertEqual(both.order_at(place), sum(orders))
                        self.assertEqual(one.over(other).order_at(place), orders[0] - orders[1])
                        if not total.is_zero:
                            self.assertGreaterEqual(total.order_at(place), min(orders))
                            if orders[0] != orders[1]:
                                self.assertEqual(total.order_at(place), min(orders))

    def test_sum_of_all_orders(self):
        for p, curve, triples in list(cases(2))[::2]:
            for triple in triples[:4]:
                function = made(curve, triple)
                if function.is_zero:
                    continue
                top, bottom = own.norm(p, curve.f.entries, triple)
                factors = plain.parts_of(p, top) + plain.parts_of(p, bottom)
                total, seen = 0, set()
                spots = plain.rims(p, curve.f.entries)
                for u in factors:
                    if u not in seen and len(u) < (5 if p == 3 else 3):
                        spots += plain.places_over(p, curve.f.entries, u)
                    elif u not in seen:
                        break
                    seen.add(u)
                else:
                    total = sum(function.order_at(place) * plain.degree_of(place) for place in spots)
                    self.assertEqual(total, 0)

    def test_residues(self):
        for curve in (QUINT, EVEN, NONE, FIVE):
            for residue in range(1, curve.prime):
                function = made(curve, ((residue,), (), (1,)))
                for place in plain.places(curve.prime, curve.f.entries, 2):
                    self.assertEqual(function.order_at(place), 0)

    def test_wrong_arguments(self):
        self.refusals(Y.order_at, (("rim", 0),), (wrong(NO_PLACES, InvalidPlace),))
        self.refused(NOTHING.order_at, (("rim", 0),), InvalidOperation)
        self.refused(NOTHING.order_at, (((0, 1), ()),), InvalidPlace)


class ValuesTest(Refusals, unittest.TestCase):
    def test_values(self):
        poles = below = 0
        for p, curve, triples in cases():
            spots = [place for place in curve if place[0] != "rim"]
            for triple in triples:
                function = made(curve, triple)
                for place in spots:
                    x, y = -place[0][0] % p, (place[1] or (0,))[0]
                    told = own.value(p, curve.f.entries, triple, x, y)
                    if told is None:
                        poles += 1
                        self.assertLess(function.order_at(place), 0)
                        self.refused(function.value_at, (place,), InvalidOperation)
                    else:
                        self.assertEqual(function.value_at(place), told, (p, curve.f, triple, place))
                        below += plain.value(p, function.c.entries, x) == 0
        # Many poles, and many finite values where c is 0.
        self.assertGreater(poles, 50)
        self.assertGreater(below, 20)

    def test_where_c_is_zero(self):
        for p, curve, _ in cases(1):
            f = curve.f.entries
            for place in [place for place in curve if place[0] != "rim" and place[1]][:5]:
                x, y = -place[0][0] % p, place[1][0]
                # The slope of the chord: (y - y0) / (x - x0), and its value is f'(x0) / (2 y0).
                chord = made(curve, ((-y % p,), (1,), place[0]))
                told = plain.value(p, plain.derivative(p, f), x) * plain.inverse(p, 2 * y % p) % p
                self.assertEqual(chord.value_at(place), told)
                self.refused(chord.value_at, (opposite(curve, place),), InvalidOperation)
                # The same with a further factor below, which is not 0 there.
                other = (x + 1) % p
                further = chord.over(made(curve, ((-other % p, 1), (), (1,))))
                self.assertEqual(further.value_at(place), told * plain.inverse(p, (x - other) % p) % p)

    def test_zero_and_residues(self):
        for place in QUINT.points()[1:]:
            self.assertEqual(NOTHING.value_at(place), 0)
            self.assertEqual(made(QUINT, ((2,), (), (1,))).value_at(place), 2)

    def test_sums_and_products(self):
        for p, curve, triples in list(cases(2))[::2]:
            some = [made(curve, triple) for triple in triples]
            for place in [place for place in curve if place[0] != "rim"][:4]:
                finite = [one for one in some if one.is_zero or one.order_at(place) >= 0]
                for one in finite:
                    for other in finite:
                        values = one.value_at(place), other.value_at(place)
                        self.assertEqual((one + other).value_at(place), sum(values) % p)
                        self.assertEqual((one * other).value_at(place), values[0] * values[1] % p)

    def test_wrong_arguments(self):
        less = Function(QUINT, Poly(3, (2,)), ONE, X)
        no_points = NO_PLACES + (("rim", 0), ((1, 0, 1), (1,)), ((1, 2, 0, 0, 0, 1), ()))
        self.refusals(less.value_at, (((0, 1), (1,)),), (wrong(no_points, InvalidPlace),))
        self.refused(less.value_at, (((0, 1), (2,)),), InvalidOperation)
        for curve, place in ((EVEN, ((2, 1), None)), (EVEN, ("rim", 1)), (NONE, ("rim", -1))):
            self.refused(Function(curve, X, ONE, ONE).value_at, (place,), InvalidPlace)

    def test_without_poles(self):
        # A function without poles is a residue; equal orders everywhere make the quotient one.
        for p, curve, triples in list(cases(2))[::3]:
            for triple in triples[:3]:
                function = made(curve, triple)
                if function.is_zero or function.a.degree > 3 or function.b.degree > 1:
                    continue
                doubled = made(curve, (plain.scale(p, triple[0], 2), plain.scale(p, triple[1], 2), triple[2]))
                self.assertTrue(function.over(doubled).is_residue)
                if not function.is_residue:
                    try:
                        orders = divisor_of(function).table.values()
                    except OverflowError:
                        continue
                    self.assertTrue(any(many < 0 for many in orders))


if __name__ == "__main__":
    unittest.main()
