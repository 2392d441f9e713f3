"""[0.12], [9.3] to [9.5]: divisors, and those of functions."""

import unittest

from tests import plain
from tests import plain_functions as own
from tests.plain import NO_INTEGERS, NO_OBJECTS, PRIMES, SIXTY, Refusals, wrong
from twinsheets.curve.curves import Curve
from twinsheets.curve.places import degree_of, opposite, places_over
from twinsheets.divisor import divisors
from twinsheets.divisor.divisors import Divisor, divisor_of, place_divisor
from twinsheets.divisor.functions import Function
from twinsheets.errors import InvalidCount, InvalidCurve, InvalidDivisor, InvalidFunction, InvalidOperation, InvalidPlace
from twinsheets.errors import TooMany
from twinsheets.poly.factors import irreducibles, least_irreducible, parts
from twinsheets.poly.polys import Poly

QUINT, EVEN = Curve.read(3, "x^5+2x+1"), Curve.read(3, "x^6+2x^5+x^4+1")
NONE, FIVE = Curve.read(3, "2x^6+x+1"), Curve.read(5, "x^5+x+1")
RIM, SPOT, OTHER = ("rim", 0), ((0, 1), (1,)), ((0, 1), (2,))
SOME = Divisor(QUINT, {RIM: -3, SPOT: 2, ((1, 0, 1), (1,)): 1})
NO_CURVES = NO_OBJECTS + (QUINT.points(), SOME, "y^2 = x over 3")
NO_DIVISORS = NO_OBJECTS + (QUINT, {}, {RIM: 1}, "0", (RIM, 1), Function(QUINT, Poly(3, ()), Poly(3, (1,)), Poly(3, (1,))))
NO_PLACES = NO_OBJECTS + (("rim", 1), ("rim", False), ["rim", 0], ((0, 1), ()), ((0, 1), None), ((0, 1), (True,)), ((2,), ()),
                          ((0, 0, 1), (1,)), ((0, 1), [1]), QUINT, SOME)
NO_TABLES = tuple(value for value in NO_DIVISORS if value not in ({}, {RIM: 1})) + ([], [(RIM, 1)], ((RIM, 1),), QUINT, "", SOME, {("rim", 1): 1}, {("rim", False): 1},
                                {((0, 1), ()): 1}, {((0, 1), None): 1}, {((0, 1), (True,)): 1}, {((0, 0, 1), (1,)): 1},
                                {RIM: True}, {RIM: False}, {RIM: None}, {RIM: 201}, {RIM: -201}, {RIM: SIXTY}, {RIM: "1"},
                                {RIM: (1,)}, {RIM: SIXTY + 1}, {RIM: 1, SPOT: 201}, {RIM: 1, ("rim", 1): 0}, {1: 1},
                                {None: 0}, {"rim": 1}, {(): 1}, {True: 1}, {(RIM,): 1}, {((0, 1, 0), (1,)): 1})


def ranked(p, place):
    """The order of places by the numbers of their polynomials."""
    first, second = place
    if first == "rim":
        return 0, second, 0
    return 1, plain.number(p, first), plain.number(p, second or ())


def some_tables(p, f, many=4):
    """Some tables of a curve, with places of every kind, not ascending."""
    spots = plain.places(p, f, 2 if p < 7 else 1)
    state, found = 5, [{}]
    for k in range(many):
        table = {}
        for _ in range(2 * k + 1):
            state = (state * 1103515245 + 12345) % 2 ** 31
            table[spots[state // 65536 % len(spots)]] = state // 7 % 11 - 5
        found.append(table)
    return found


def cases():
    for p, each in ((3, 2), (5, 1), (7, 1), (31, 1)):
        for row in plain.curve_rows(p, each):
            yield p, Curve(Poly(p, row)), some_tables(p, row)


def kept(table):
    return {place: many for place, many in table.items() if many}


def added(one, other, sign=1):
    found = dict(one)
    for place, many in other.items():
        found[place] = found.get(place, 0) + sign * many
    return kept(found)


def text_of(p, divisor):
    """The text, term by term."""
    text = ""
    for place, many in divisor.table.items():
        first, second = place
        if first == "rim":
            inner = f"rim {second}"
        else:
            inner = f"{Poly(p, first)}: {'none' if second is None else Poly(p, second)}"
        size = "" if abs(many) == 1 else abs(many)
        sign = ("-" if many < 0 else "") if not text else (" - " if many < 0 else " + ")
        text += f"{sign}{size}({inner})"
    return text or "0"


class DivisorTest(Refusals, unittest.TestCase):
    def check(self, p, divisor, table, spots=()):
        """All that a divisor tells, against a dict."""
        told = kept(table)
        ascending = sorted(told, key=lambda place: ranked(p, place))
        self.assertEqual(divisor.table, told)
        self.assertEqual(list(divisor.table), ascending)
        self.assertEqual(divisor.degree, sum(many * plain.degree_of(place) for place, many in told.items()))
        self.assertIs(divisor.is_positive, all(many >= 0 for many in told.values()))
        self.assertEqual((list(divisor), len(divisor)), (ascending, len(told)))
        self.assertEqual(str(divisor), text_of(p, divisor))
        for place in list(spots) + list(told):
            self.assertEqual(divisor.at(place), told.get(place, 0))
            self.assertIs(place in divisor, place in told)

    def test_constant(self):
        self.assertEqual(divisors.MAX_COEFFICIENT, 200)

    def test_all_that_is_told(self):
        for p, curve, tables in cases():
            for table in tables:
                divisor = Divisor(curve, table)
                self.assertEqual(divisor.curve, curve)
                self.check(p, divisor, table, plain.places(p, curve.f.entries, 1))
                self.check(p, Divisor(curve, dict(reversed(table.items()))), table)

    def test_reckoning(self):
        for p, curve, tables in cases():
            for one in tables:
                first = Divisor(curve, one)
                self.check(p, -first, {place: -many for place, many in one.items()})
                self.check(p, first.opposite(), {plain.opposite(p, place): many for place, many in one.items()})
                self.assertEqual(first.opposite().opposite(), first)
                for many in (-40, -3, -1, 0, 1, 2, 40):
                    self.check(p, first.times(many), {place: many * held for place, held in one.items()})
                for other in tables:
                    second = Divisor(curve, other)
                    self.check(p, first + second, added(one, other))
                    self.check(p, first - second, added(one, other, -1))
                    self.assertIs(first == second, kept(one) == kept(other))
                    self.assertIs(first != second, kept(one) != kept(other))
                self.assertEqual((first - first).table, {})

    def test_text(self):
        for table, told in (({}, "0"), ({RIM: 0}, "0"), ({RIM: 1}, "(rim 0)"), ({RIM: -1}, "-(rim 0)"), ({RIM: 2}, "2(rim 0)"),
                            ({SPOT: 1, RIM: -1}, "-(rim 0) + (x: 1)"), ({OTHER: -1, RIM: 3}, "3(rim 0) - (x: 2)"),
                            ({((1, 2, 0, 0, 0, 1), ()): -2}, "-2(x^5+2x+1: 0)"),
                            ({SPOT: -10, OTHER: 200, RIM: -3}, "-3(rim 0) - 10(x: 1) + 200(x: 2)")):
            self.assertEqual(str(Divisor(QUINT, table)), told)
        inert = next(place for place in plain.places(3, QUINT.f.entries, 3) if place[1] is None)
        self.assertEqual(str(Divisor(QUINT, {RIM: -3, inert: -2})), f"-3(rim 0) - 2({Poly(3, inert[0])}: none)")
        self.assertEqual(str(Divisor(NONE, {("rim", -1): -1})), "-(rim -1)")
        self.assertEqual(str(Divisor(EVEN, {("rim", 2): 1, ("rim", 1): -3})), "-3(rim 1) + (rim 2)")

    def test_members(self):
        for value in NO_PLACES + (OTHER, ((1, 0, 1), (2,)), ("rim", -1), ((1, 0, 1), (True,)), ((1, False, 1), (1,))):
            self.assertIs(value in SOME, False)
        for place in (RIM, SPOT, ((1, 0, 1), (1,))):
            self.assertIs(place in SOME, True)

    def test_equal(self):
        self.assertTrue(SOME == Divisor(QUINT, {SPOT: 2, ((1, 0, 1), (1,)): 1, RIM: -3, OTHER: 0}))
        for value in NO_DIVISORS + (-SOME, SOME + SOME, Divisor(QUINT, {}), SOME.opposite(), SOME.table):
            self.assertIs(SOME == value, False)
            self.assertIs(SOME != value, True)
        self.assertFalse(Divisor(QUINT, {}) == Divisor(EVEN, {}))

    def test_nothing_is_shared(self):
        table = {RIM: 1, SPOT: 2}
        divisor = Divisor(QUINT, table)
        table[RIM] = 5
        divisor.table[OTHER] = 7
        divisor.table.clear()
        held = list(divisor)
        held.clear()
        self.assertEqual((divisor.table, list(divisor), divisor.degree), ({RIM: 1, SPOT: 2}, [RIM, SPOT], 3))

    def test_great_places(self):
        u = least_irreducible(3, 9)
        place = places_over(QUINT, u)[0]
        divisor = Divisor(QUINT, {place: 2, RIM: -1})
        self.assertEqual((divisor.degree, divisor.at(place)), (2 * degree_of(QUINT, place) - 1, 2))

    def test_bounds(self):
        for many in (200, -200):
            one = Divisor(QUINT, {SPOT: many, RIM: 1})
            more = Divisor(QUINT, {SPOT: 1 if many > 0 else -1})
            self.refused(lambda a, b: a + b, (one, more), TooMany, limit=200)
            self.refused(lambda a, b: a - b, (one, -more), TooMany, limit=200)
            self.assertEqual((one - more).at(SPOT), many - many // 200)
            for factor in (2, -2, 200, -200):
                self.refused(one.times, (factor,), TooMany, limit=200)
            self.assertEqual(one.times(-1), -one)
        self.assertEqual(Divisor(QUINT, {SPOT: -1}).times(-200).table, {SPOT: 200})
        self.refused(Divisor(QUINT, {SPOT: 3}).times, (67,), TooMany, limit=200)
        self.assertEqual(Divisor(QUINT, {SPOT: 3}).times(66).table, {SPOT: 198})

    def test_wrong_operands(self):
        for value in NO_DIVISORS:
            for call in (lambda a, b: a + b, lambda a, b: a - b):
                self.assertRaises(TypeError, call, SOME, value)
                self.assertRaises(TypeError, call, value, SOME)
        far = Divisor(EVEN, {("rim", 1): 200})
        for call in (lambda a, b: a + b, lambda a, b: a - b):
            self.refused(call, (SOME, far), InvalidOperation)
            self.refused(call, (far, Divisor(QUINT, {})), InvalidOperation)

    def test_wrong_arguments(self):
        bad = wrong(NO_CURVES, InvalidCurve)
        self.refusals(Divisor, (QUINT, {RIM: 1}), (bad, wrong(NO_TABLES, InvalidDivisor)))
        self.refusals(place_divisor, (QUINT, RIM), (bad, wrong(NO_PLACES, InvalidPlace)))
        self.refusals(SOME.times, (1,), (wrong((201, -201, SIXTY) + NO_INTEGERS, InvalidCount, "value"),))
        self.refusals(SOME.at, (RIM,), (wrong(NO_PLACES, InvalidPlace),))
        self.assertRaises(TypeError, lambda: SOME * 2)

    def test_place_divisor(self):
        for p, curve, _ in cases():
            for place in plain.places(p, curve.f.entries, 2 if p < 7 else 1):
                divisor = place_divisor(curve, place)
                self.assertEqual((divisor.table, divisor.degree), ({place: 1}, plain.degree_of(place)))


class FunctionsTest(Refusals, unittest.TestCase):
    def divisor_plain(self, p, f, triple):
        """The orders at all places, by those over the factors of the norm and of c; None for too great factors."""
        a, b, c = triple
        top, _ = own.norm(p, f, (a, b, (1,)))
        spots, seen = plain.rims(p, f), set()
        for u in plain.parts_of(p, top) + plain.parts_of(p, c):
            if len(u) > (7 if p == 3 else 5 if p == 5 else 3 if p < 11 else 2) or not plain.is_irreducible(p, u):
                return None
            if u not in seen:
                spots += plain.places_over(p, f, u)
                seen.add(u)
        return kept({place: own.order(p, f, triple, place) for place in spots})

    def test_divisors_of_functions(self):
        told = 0
        for p, curve, _ in list(cases())[:30]:
            f = curve.f.entries
            for triple in own.some_triples(p, f, 4):
                function = Function(curve, *plain.polys(p, triple))
                if function.is_zero:
                    continue
                table = self.divisor_plain(p, f, triple)
                if table is not None:
                    told += 1
                    divisor = divisor_of(function)
                    self.assertEqual(divisor.table, table, (p, f, triple))
                    self.assertEqual((divisor.degree, divisor.curve), (0, curve))
                    self.assertEqual(list(divisor.table), sorted(table, key=lambda place: ranked(p, place)))
        self.assertGreater(told, 80)

    def test_products_and_opposites(self):
        for p, curve, _ in cases():
            some = []
            for triple in own.some_triples(p, curve.f.entries, 3)[::2]:
                function = Function(curve, *plain.polys(p, triple))
                try:
                    some.append((function, divisor_of(function)))
                except (OverflowError, InvalidOperation):
                    continue
            for one, first in some:
                self.assertEqual(divisor_of(one.opposite()), first.opposite())
                self.assertEqual((first.degree, divisor_of(-one)), (0, first))
                self.assertEqual(divisor_of(one.power(-2)), first.times(-2))
                for other, second in some[::4]:
                    self.assertEqual(divisor_of(one * other), first + second)
                    self.assertEqual(divisor_of(one.over(other)), first - second)

    def test_one_polynomial(self):
        for p, curve, _ in cases():
            for degree in (1, 2, 3) if p < 7 else (1,):
                for u in list(irreducibles(p, degree))[::1 if degree < 3 else 7]:
                    function = Function(curve, u, Poly(p, ()), Poly(p, (1,)))
                    found = places_over(curve, u)
                    many = 2 if found[0][1] == () else 1
                    both = degree * (2 if curve.kind == "one" else 1)
                    told = {place: many for place in found}
                    told.update({place: -both for place in curve.rims})
                    self.assertEqual(divisor_of(function).table, told)
                    # Each place and its opposite together are alike with a divisor of the rim.
                    rim = Divisor(curve, {place: both for place in curve.rims})
                    for place in found:
                        total = place_divisor(curve, place)
                        if place[1] is not None:
                            total = total + place_divisor(curve, opposite(curve, place))
                        self.assertEqual(total - rim, divisor_of(function))

    def test_y(self):
        for p in PRIMES:
            for row in plain.curve_rows(p):
                curve = Curve(Poly(p, row))
                y = Function(curve, Poly(p, ()), Poly(p, (1,)), Poly(p, (1,)))
                divisor = divisor_of(y)
                degree = len(row) - 1
                for place in curve.rims:
                    self.assertEqual(divisor.at(place), -degree if curve.kind == "one" else -degree // 2)
                ramified = [place for place in divisor if place[0] != "rim"]
                self.assertTrue(all(place[1] == () and divisor.at(place) == 1 for place in ramified))
                self.assertEqual(sum(len(place[0]) - 1 for place in ramified), degree)

    def test_residues(self):
        for curve in (QUINT, EVEN, NONE, FIVE):
            p = curve.prime
            for residue in range(1, p):
                divisor = divisor_of(Function(curve, Poly(p, (residue,)), Poly(p, ()), Poly(p, (1,))))
                self.assertEqual((divisor.table, str(divisor), divisor.is_positive), ({}, "0", True))

    def test_places_too_great(self):
        nine = least_irreducible(3, 9)
        one, nothing, x = Poly(3, (1,)), Poly(3, ()), Poly(3, (0, 1))
        eight = least_irreducible(3, 8)
        for curve in (QUINT, EVEN, NONE):
            for args in ((nine, nothing, one), (one, nothing, nine), (nine * eight, nothing, x), (nine.power(3), nothing, one),
                         (nothing, nine, one), (least_irreducible(3, 20), nothing, one), (nine.power(210), nothing, one),
                         (x.power(210) * nine, nothing, one)):
                self.refused(divisor_of, (Function(curve, *args),), TooMany, limit=8)
            divisor = divisor_of(Function(curve, eight, nothing, x))
            self.assertEqual((divisor.degree, {len(place[0]) - 1 for place in divisor if place[0] != "rim"}), (0, {1, 8}))
        # Beside factors of all lesser degrees, too.
        product = one
        for degree in range(1, 9):
            product = product * least_irreducible(3, degree)
        self.assertEqual(divisor_of(Function(QUINT, product, nothing, one)).at(RIM), -72)
        self.refused(divisor_of, (Function(QUINT, product * nine, nothing, one),), TooMany, limit=8)
        self.refused(divisor_of, (Function(QUINT, one, nothing, product * nine),), TooMany, limit=8)
        # The norm of a + b y has an irreducible factor of degree 9, or more.
        found = 0
        for row in plain.monics(3, 4):
            function = Function(SEPT, Poly(3, row), Poly(3, (1, 1)), one)
            if max(part.degree for part, _ in parts(function.norm[0])[1]) > 8:
                found += 1
                self.refused(divisor_of, (function,), TooMany, limit=8)
            else:
                self.assertEqual(divisor_of(function).degree, 0)
        self.assertGreater(found, 0)

    def test_coefficients_too_great(self):
        x, one, nothing = Poly(3, (0, 1)), Poly(3, (1,)), Poly(3, ())
        self.assertEqual(divisor_of(Function(QUINT, x.power(100), nothing, one)).at(RIM), -200)
        self.refused(divisor_of, (Function(QUINT, x.power(101), nothing, one),), TooMany, limit=200)
        self.refused(divisor_of, (Function(QUINT, one, nothing, x.power(101)),), TooMany, limit=200)
        self.assertEqual(divisor_of(Function(EVEN, x.power(200), nothing, one)).at(SPOT), 200)
        self.refused(divisor_of, (Function(EVEN, x.power(201), nothing, one),), TooMany, limit=200)
        # At the rim all is well.
        far = Function(EVEN, x.power(201), nothing, Poly(3, (1, 1)).power(201))
        self.assertEqual([far.order_at(place) for place in EVEN.rims], [0, 0])
        self.refused(divisor_of, (far,), TooMany, limit=200)

    def test_great_powers(self):
        less = Function(QUINT, Poly(3, (2,)), Poly(3, (1,)), Poly(3, (0, 1)))
        for many in (60, -60, 9, 27):
            self.assertEqual(divisor_of(less.power(many)), divisor_of(less).times(many))

    def test_not_true(self):
        # Functions without poles off the rim have no zeros off it.
        y = Function(QUINT, Poly(3, ()), Poly(3, (1,)), Poly(3, (1,)))
        self.assertEqual({place[0]: many > 0 for place, many in divisor_of(y).table.items()},
                         {"rim": False, QUINT.f.entries: True})

    def test_wrong_arguments(self):
        self.refusals(divisor_of, (Function(QUINT, Poly(3, (0, 1)), Poly(3, ()), Poly(3, (1,))),),
                      (wrong(NO_DIVISORS[:-1] + (SOME,), InvalidFunction),))
        self.refused(divisor_of, (Function(QUINT, Poly(3, ()), Poly(3, ()), Poly(3, (1,))),), InvalidOperation)


SEPT = Curve.read(3, "x^7+x+1")


if __name__ == "__main__":
    unittest.main()
