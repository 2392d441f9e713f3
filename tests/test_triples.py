"""[0.14], [11.1] to [11.5]: triples."""

import unittest

from tests import plain
from tests import plain_triples as own
from tests.plain import NO_INTEGERS, NO_OBJECTS, PRIMES, SIXTY, Refusals, wrong
from twinsheets.curve.curves import Curve
from twinsheets.curve.places import is_place
from twinsheets.divisor.divisors import Divisor, divisor_of
from twinsheets.divisor.functions import Function
from twinsheets.divisor.spaces import are_alike
from twinsheets.errors import InvalidCount, InvalidCurve, InvalidDivisor, InvalidOperation, InvalidTriple, TooMany
from twinsheets.group import triples
from twinsheets.group.triples import Triple, all_triples, is_paper, is_triple, sum_told, triple_of, zero_triple
from twinsheets.poly.polys import Poly
from twinsheets.zeta.counts import class_number

QUINT, EVEN = Curve.read(3, "x^5+2x+1"), Curve.read(3, "x^6+2x^5+x^4+1")
NONE, FIVE, SEPT = Curve.read(3, "2x^6+x+1"), Curve.read(5, "x^5+x+1"), Curve.read(3, "x^7+x+1")
ONE, X, NO = Poly(3, (1,)), Poly(3, (0, 1)), Poly(3, ())
SOME = Triple(QUINT, X, ONE)
LESS = SOME.divisor()
Y = Function(QUINT, NO, ONE, ONE)
NO_CURVES = NO_OBJECTS + (QUINT.points(), SOME, LESS, Y, "y^2 = x over 3")
NO_TRIPLES = NO_OBJECTS + (QUINT, LESS, Y, (X, ONE, 0), [X, ONE, 0], {}, "(x, 1, 0)")
NO_DIVISORS = NO_OBJECTS + (QUINT, SOME, Y, {}, {("rim", 0): 1}, "0")


def curves(primes=(3, 5), many=2, limit=400):
    """Curves of the kinds that have triples, of every genus, with not too many classes."""
    for p in primes:
        for row in plain.curve_rows(p, many):
            curve = Curve(Poly(p, row))
            if curve.kind != "none" and class_number(curve) <= limit:
                yield curve


def made(curve, rows):
    u, v, n = rows
    return Triple(curve, Poly(curve.prime, u), Poly(curve.prime, v), n)


def told(triple):
    return triple.u.entries, triple.v.entries, triple.n


def some(curve, many, seed=3):
    """Some triples of a curve, with zero."""
    found, state = list(all_triples(curve)), seed
    picked = [zero_triple(curve)]
    for _ in range(many):
        state = (state * 1103515245 + 12345) % 2 ** 31
        picked.append(found[state // 65536 % len(found)])
    return picked


def added(*tables):
    """The sum of pairs of a factor and a table, without zeros."""
    found = {}
    for factor, table in tables:
        for place, many in table.items():
            found[place] = found.get(place, 0) + factor * many
    return {place: many for place, many in found.items() if many}


class TripleTest(Refusals, unittest.TestCase):
    def test_constant(self):
        self.assertEqual(triples.MAX_TRIPLES, 2000)

    def test_all_of_them(self):
        met = set()
        for curve in curves((3, 5, 7), 3):
            p, f = curve.prime, curve.f.entries
            expected = own.all_triples(p, f)
            found = list(all_triples(curve))
            self.assertEqual([told(triple) for triple in found], expected)
            self.assertEqual(len(expected), class_number(curve))
            met.add((curve.kind, curve.genus))
            for rows, triple in zip(expected, found):
                self.assertEqual(triple.curve, curve)
                self.assertEqual(triple, made(curve, rows))
                self.assertEqual(str(triple), f"({Poly(p, rows[0])}, {Poly(p, rows[1])}, {rows[2]})")
                self.assertIs(is_triple(curve, (triple.u, triple.v, triple.n)), True)
        self.assertEqual(len(met), 8)

    def test_divisors(self):
        repeated, ramified = 0, 0
        for curve in curves():
            p, f = curve.prime, curve.f.entries
            for rows in own.all_triples(p, f):
                divisor = made(curve, rows).divisor()
                self.assertEqual(divisor.table, own.table(p, f, rows))
                self.assertEqual((divisor.degree, divisor.curve), (0, curve))
                self.assertTrue(all(is_place(curve, place) for place in divisor))
                repeated += any(place[0] != "rim" and many > 1 for place, many in divisor.table.items())
                ramified += any(place[1] == () for place in divisor)
                self.assertTrue(all(divisor.at(place) == 1 for place in divisor if place[1] == ()))
        self.assertTrue(repeated > 50 and ramified > 50)

    def test_changed_in_one_spot(self):
        for curve in curves((3, 5), 1, 120):
            p, f, g = curve.prime, curve.f.entries, curve.genus
            known = set(own.all_triples(p, f))
            polys = [row for degree in range(min(g, 2) + 2) for row in plain.below(p, degree)][:40]
            for u, v, n in list(known)[::5]:
                near = [(w, v, n) for w in polys] + [(u, w, n) for w in polys] + [(u, v, m) for m in range(-2, g + 3)]
                near += [(plain.scale(p, u, 2), v, n), (u, plain.add(p, u, v), n), (plain.times(p, u, (1, 1)), v, n)]
                for rows in near:
                    value = Poly(p, rows[0]), Poly(p, rows[1]), rows[2]
                    self.assertIs(is_triple(curve, value), rows in known, (f, rows))
                    if rows in known:
                        self.assertEqual(told(Triple(curve, *value)), rows)
                    else:
                        self.refused(Triple, (curve,) + value, InvalidTriple)

    def test_other_values(self):
        for value in NO_TRIPLES + ((X, ONE), (X, ONE, 0, 0), ((X, ONE, 0),), ((0, 1), (1,), 0), (X, ONE, False), (X, ONE, None),
                                   (X, ONE, "0"), (X, None, 0), (None, ONE, 0), (Poly(5, (0, 1)), Poly(5, (1,)), 0),
                                   (X, Poly(5, (1,)), 0), (Poly(5, (0, 1)), ONE, 0), (X, ONE, SIXTY), (X, ONE, -SIXTY),
                                   (NO, NO, 0), (ONE, NO, 1), (X * X * X, ONE, 0), (X * X, ONE, 0), SOME):
            if value != (X, ONE, 0):
                self.assertIs(is_triple(QUINT, value), False)
        self.assertIs(is_triple(QUINT, (X, ONE, 0)), True)
        self.assertIs(is_triple(EVEN, (ONE, NO, 2)), True)
        self.assertIs(is_triple(EVEN, (ONE, NO, True)), False)

    def test_equal(self):
        for triple in some(QUINT, 6) + some(EVEN, 6):
            again = Triple(triple.curve, triple.u, triple.v, triple.n)
            self.assertTrue(triple == again and not triple != again)
            for value in NO_TRIPLES + (triple.opposite().plus(SOME) if triple.curve == QUINT else SOME,):
                if value != zero_triple(QUINT) or triple != zero_triple(QUINT):
                    self.assertIs(triple == value, triple is value)
        self.assertFalse(zero_triple(QUINT) == zero_triple(SEPT))
        self.assertFalse(Triple(EVEN, ONE, NO, 0) == Triple(EVEN, ONE, NO, 1))
        self.assertTrue(SOME == Triple(Curve.read(3, "x^5+2x+1"), X, ONE, 0))

    def test_zero(self):
        for p in PRIMES:
            for row in plain.curve_rows(p):
                curve = Curve(Poly(p, row))
                if curve.kind == "none":
                    self.refused(zero_triple, (curve,), InvalidOperation)
                else:
                    n = (curve.genus + 1) // 2 if curve.kind == "two" else 0
                    self.assertEqual(told(zero_triple(curve)), ((1,), (), n))
                    self.assertEqual(zero_triple(curve).divisor().table, {})

    def test_sums_and_differences(self):
        for curve in curves():
            p, f = curve.prime, curve.f.entries
            zero, count = zero_triple(curve), class_number(curve)
            picked = some(curve, 7)
            known = own.all_triples(p, f) if count < 150 else None
            for one in picked:
                self.assertEqual(one.plus(zero), one)
                self.assertEqual(one.minus(one), zero)
                self.assertEqual(one.opposite().opposite(), one)
                self.assertEqual(one.times(count), zero)
                for other in picked:
                    total, less = one.plus(other), one.minus(other)
                    if known:
                        self.assertTrue(told(total) in known and told(less) in known)
                    self.assertEqual(total, other.plus(one))
                    self.assertEqual(less.plus(other), one)
                    self.assertEqual(less, one.plus(other.opposite()))
                    self.check_alike(total, added((1, own.table(p, f, told(one))), (1, own.table(p, f, told(other)))))
                    for third in picked[:4]:
                        self.assertEqual(total.plus(third), one.plus(other.plus(third)))

    def check_alike(self, triple, table):
        """The triple is alike with a table: the function of the paper has the difference as its divisor."""
        curve = triple.curve
        divisor = Divisor(curve, table)
        found, function = triple_of(divisor)
        self.assertEqual(found, triple)
        self.check_paper(divisor, found, function)

    def check_paper(self, divisor, triple, function):
        p, f = divisor.curve.prime, divisor.curve.f.entries
        less = added((1, divisor.table), (-1, own.table(p, f, told(triple))))
        self.assertEqual(function.curve, divisor.curve)
        self.assertEqual(divisor_of(function).table, less)

    def test_opposites(self):
        missing = 0
        for curve in curves((3, 5), 2, 150):
            p, f = curve.prime, curve.f.entries
            for rows in own.all_triples(p, f):
                triple, expected = made(curve, rows), own.opposite(p, f, rows)
                opposite = triple.opposite()
                if expected is None:
                    missing += 1
                else:
                    self.assertEqual(told(opposite), expected)
                self.assertTrue(are_alike(opposite.divisor(), -triple.divisor()))
                self.assertEqual(triple.plus(opposite), zero_triple(curve))
        self.assertGreater(missing, 10)

    def test_multiples(self):
        for curve in curves((3, 5), 1):
            count = class_number(curve)
            for one in some(curve, 3):
                total = zero_triple(curve)
                for many in range(20):
                    self.assertEqual(one.times(many), total)
                    self.assertEqual(one.times(-many), total.opposite())
                    total = total.plus(one)
                for many in (10 ** 29 + 7, -10 ** 29 - 7, SIXTY, -SIXTY, 10 ** 30 - 1):
                    self.assertEqual(one.times(many), one.times(many % count))

    def test_unlike_triples_are_not_alike(self):
        for curve in curves((3, 5), 1, 30):
            found = list(all_triples(curve))
            for at, one in enumerate(found):
                for other in found[at + 1:]:
                    self.assertIs(are_alike(one.divisor(), other.divisor()), False)

    def test_papers_of_divisors(self):
        for curve in curves((3, 5, 7), 1, 2000):
            p, f = curve.prime, curve.f.entries
            spots = plain.places(p, f, 2 if p < 7 else 1)
            state = p
            for many in (0, 1, 2, 3, 4, 6):
                table = {}
                for _ in range(many):
                    state = (state * 1103515245 + 12345) % 2 ** 31
                    table[spots[state // 65536 % len(spots)]] = state // 7 % 9 - 4
                rest = sum(held * plain.degree_of(place) for place, held in table.items() if place != curve.rims[0])
                table[curve.rims[0]] = -rest
                divisor = Divisor(curve, table)
                triple, function = triple_of(divisor)
                self.check_paper(divisor, triple, function)
                self.judge(divisor, triple, function)

    def judge(self, divisor, triple, function):
        curve, p = divisor.curve, divisor.curve.prime
        two = Function(curve, Poly(p, (2,)), Poly(p, ()), Poly(p, (1,)))
        x = Function(curve, Poly(p, (0, 1)), Poly(p, ()), Poly(p, (1,)))
        for value in ((triple, function), (triple, -function), (triple, function * two)):
            self.assertIs(is_paper(divisor, value), True)
        less = function - function
        bad = [(triple, less), (triple, function * x), [triple, function], (function, triple), (triple,), (triple, function, 0),
               None, triple, function, (), (None, function), (triple, None), 0, True, "",
               ((triple.u, triple.v, triple.n), function), (triple, (function.a, function.b, function.c)), {triple.n: function}]
        if curve != QUINT:
            bad += [(SOME, function), (triple, Y)]
        if class_number(curve) > 1:
            other = next(one for one in all_triples(curve) if one != triple)
            bad.append((other, function))
        if not function.is_residue:
            bad.append((triple, two.over(function)))
        for value in bad:
            self.assertIs(is_paper(divisor, value), False)

    def test_sums_told(self):
        for curve in curves((3, 5), 1, 2000):
            picked = some(curve, 5, 7)
            for one in picked:
                for other in picked:
                    paper = sum_told(one, other)
                    self.assertIsInstance(paper, tuple)
                    triple, function = paper
                    self.assertEqual(triple, one.plus(other))
                    divisor = one.divisor() + other.divisor()
                    self.check_paper(divisor, triple, function)
                    self.assertIs(is_paper(divisor, paper), True)

    def test_great_divisors(self):
        for curve in (QUINT, EVEN, SEPT, Curve.read(3, "x^8+x+2")):
            count = class_number(curve)
            first, second = [place for place in curve.points() if place[0] != "rim" and place[1]][:2]
            rims = curve.rims
            for many in (20, 199, -200):
                divisor = Divisor(curve, {first: many, second: -many})
                triple, function = triple_of(divisor)
                self.assertTrue(is_paper(divisor, (triple, function)))
                small = triple_of(Divisor(curve, {first: 1, second: -1}))[0]
                self.assertEqual(triple, small.times(many % count))
            if len(rims) == 2:
                for many in (1, 5, 200, -200):
                    divisor = Divisor(curve, {rims[0]: many, rims[1]: -many})
                    triple, function = triple_of(divisor)
                    self.assertTrue(is_paper(divisor, (triple, function)))
                    self.assertEqual(triple, triple_of(Divisor(curve, {rims[0]: 1, rims[1]: -1}))[0].times(many))

    def test_genus_zero(self):
        for p in PRIMES:
            for row in plain.curve_rows(p)[:3]:
                curve = Curve(Poly(p, row))
                if curve.kind != "none":
                    zero = zero_triple(curve)
                    self.assertEqual(list(all_triples(curve)), [zero])
                    self.assertEqual((zero.plus(zero), zero.opposite(), zero.times(-7), told(zero)), (zero, zero, zero, ((1,), (), 0)))
                    first, second = curve.points()[:2]
                    divisor = Divisor(curve, {first: 3, second: -3})
                    triple, function = triple_of(divisor)
                    self.assertEqual((triple, divisor_of(function)), (zero, divisor))

    def test_not_true(self):
        # [11.5], one after the other.
        pairs = [(one, other) for one in all_triples(EVEN) for other in all_triples(EVEN) if one.u == other.u]
        self.assertTrue(any(one != other and one != other.opposite() for one, other in pairs))
        one, other = SOME.times(2), SOME
        self.assertTrue((one.u * other.u % one.plus(other).u).degree >= 0)
        twisted = [triple for row in plain.curve_rows(3, 4) for curve in [Curve(Poly(3, row))] if curve.kind == "two"
                   for triple in all_triples(curve) if (curve.f % triple.u).is_zero and triple.u.degree > 0]
        self.assertTrue(any(triple.plus(triple) != zero_triple(triple.curve) for triple in twisted))

    def test_too_many(self):
        # 13 ** 3 is 2197; the class number of a curve over 17 of the genus 3 is not told, and is above 2000 as a rule.
        great, small = 0, 0
        for row in plain.curve_rows(13, 6) + plain.curve_rows(11, 2):
            curve = Curve(Poly(len(row) and (13 if row in plain.curve_rows(13, 6) else 11), row))
            if curve.kind != "none" and curve.genus == 3:
                if class_number(curve) > 2000:
                    great += 1
                    self.refused(lambda told: next(all_triples(told)), (curve,), TooMany, limit=2000)
                else:
                    small += 1
                    self.assertEqual(next(all_triples(curve)).u.degree, 0)
        self.assertTrue(great and small)
        for p in (17, 31):
            for row in plain.curve_rows(p):
                curve = Curve(Poly(p, row))
                if curve.kind != "none" and curve.genus == 3:
                    self.refused(lambda told: next(all_triples(told)), (curve,), TooMany, limit=2000)
                    one = triple_of(Divisor(curve, {curve.points()[0]: 1, curve.points()[-1]: -1}))[0]
                    self.assertEqual(one.times(5).minus(one.times(4)), one)

    def test_few_triples_that_are_not_counted(self):
        # The class number is not told, but there are not more than 2000 triples.
        for row in ((7, 4, 6, 15, 11, 12, 5, 1), (10, 8, 7, 4, 0, 14, 1, 4)):
            curve = Curve(Poly(17, row))
            self.refused(class_number, (curve,), TooMany, limit=3000)
            found = list(all_triples(curve))
            self.assertTrue(900 < len(found) <= 2000)
            for triple in found[:5] + found[-5:]:
                self.assertEqual(triple.times(len(found)), zero_triple(curve))

    def test_wrong_curves(self):
        wrong_curves = wrong(NO_CURVES, InvalidCurve) + wrong((NONE, Curve.read(3, "2x^2+1")), InvalidOperation)
        self.refusals(zero_triple, (QUINT,), (wrong_curves,))
        self.refusals(lambda told: next(all_triples(told)), (QUINT,), (wrong_curves,))
        for value in NO_CURVES:
            all_triples(value)
            self.refused(is_triple, (value, None), InvalidCurve)
            self.refused(is_triple, (value, (X, ONE, 0)), InvalidCurve)
            self.refused(Triple, (value, X, ONE), InvalidCurve)
            self.refused(Triple, (value, None, None, None), InvalidCurve)
        for value in (None, (ONE, NO, 0)):
            self.refused(is_triple, (NONE, value), InvalidOperation)
        self.refused(Triple, (NONE, ONE, NO, 0), InvalidOperation)
        self.refused(Triple, (NONE, None, None, None), InvalidOperation)

    def test_wrong_triples(self):
        bad = wrong(NO_TRIPLES, InvalidTriple)
        for value in NO_TRIPLES:
            if not isinstance(value, Poly):
                self.refused(Triple, (QUINT, value, ONE), InvalidTriple)
                self.refused(Triple, (QUINT, X, value), InvalidTriple)
            if value != 0 or isinstance(value, bool):
                self.refused(Triple, (QUINT, X, ONE, value), InvalidTriple)
            for call in (SOME.plus, SOME.minus):
                self.refused(call, (value,), InvalidTriple)
        self.refusals(sum_told, (SOME, SOME), (bad, bad))
        for call in (SOME.plus, SOME.minus, lambda other: sum_told(SOME, other)):
            self.refused(call, (zero_triple(EVEN),), InvalidOperation)
        self.refusals(SOME.times, (1,), (wrong(NO_INTEGERS, InvalidCount, "value"),))

    def test_wrong_divisors(self):
        self.refusals(triple_of, (LESS,), (wrong(NO_DIVISORS, InvalidDivisor),))
        for value in NO_DIVISORS:
            self.refused(is_paper, (value, triple_of(LESS)), InvalidDivisor)
        for divisor in (Divisor(NONE, {}), Divisor(NONE, {("rim", -1): 1}), Divisor(QUINT, {("rim", 0): 1}),
                        Divisor(EVEN, {("rim", 1): -1})):
            self.refused(triple_of, (divisor,), InvalidOperation)
            for value in (None, triple_of(LESS)):
                self.refused(is_paper, (divisor, value), InvalidOperation)


if __name__ == "__main__":
    unittest.main()
