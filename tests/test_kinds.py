"""[0.16], [12.2] to [12.5]: the kinds of the group of classes."""

import unittest
from itertools import islice, product
from math import gcd

from tests import plain
from tests.plain import NO_OBJECTS, PRIMES, Refusals, wrong
from tests.test_triples import curves
from twinsheets.curve.curves import Curve
from twinsheets.errors import InvalidCurve, InvalidOperation, TooMany
from twinsheets.group import kinds as module
from twinsheets.group.kinds import count_halves, halves, is_makers, kinds, makers, orders_met
from twinsheets.group.orders import order_of
from twinsheets.group.triples import Triple, all_triples, zero_triple
from twinsheets.poly.factors import irreducibles, parts
from twinsheets.poly.polys import Poly
from twinsheets.zeta.counts import class_number, l_of

QUINT, EVEN = Curve.read(3, "x^5+2x+1"), Curve.read(3, "x^6+2x^5+x^4+1")
NONE, FIVE, SEPT = Curve.read(3, "2x^6+x+1"), Curve.read(5, "x^5+x+1"), Curve.read(3, "x^7+x+1")
NO_CURVES = NO_OBJECTS + (QUINT.points(), zero_triple(QUINT), "y^2 = x over 3", {}, [QUINT])


def met(curve):
    """How many triples have each order, by the orders of all."""
    found = {}
    for triple in all_triples(curve):
        order = order_of(triple)
        found[order] = found.get(order, 0) + 1
    return {order: found[order] for order in sorted(found)}


def sums(pairs, zero):
    """The texts of all sums of multiples, one for each choice of factors."""
    found = []
    for factors in product(*[range(order) for _, order in pairs]):
        total = zero
        for many, (triple, _) in zip(factors, pairs):
            total = total.plus(triple.times(many))
        found.append(str(total))
    return found


def shares(total, most):
    """All ways to share a number into parts, descending."""
    if total == 0:
        return [()]
    return [(part,) + rest for part in range(1, min(total, most) + 1) for rest in shares(total - part, part)]


class KindTest(Refusals, unittest.TestCase):
    def test_constant(self):
        self.assertEqual(module.MAX_GROUP, 2000)

    def test_kinds_and_orders(self):
        shapes = set()
        for curve in curves((3, 5, 7), 4, 150):
            told, count = kinds(curve), class_number(curve)
            expected = met(curve)
            self.assertEqual(orders_met(curve), expected)
            self.assertEqual(list(orders_met(curve)), sorted(expected))
            # The kinds are told by how many triples m times are 0.
            for m in range(1, 40):
                zeros = 1
                for kind in told:
                    zeros *= gcd(kind, m)
                self.assertEqual(zeros, sum(many for order, many in expected.items() if m % order == 0))
            self.check_form(curve, told, count)
            shapes.add(len(told))
        self.assertTrue({0, 1, 2} <= shapes)

    def check_form(self, curve, told, count):
        self.assertIsInstance(told, tuple)
        total = 1
        for low, high in zip(told, told[1:]):
            self.assertEqual(high % low, 0)
        for kind in told:
            self.assertGreater(kind, 1)
            total *= kind
        self.assertEqual(total, count)
        self.assertLessEqual(len(told), 2 * curve.genus)
        # The number of residues modulo the kinds as a whole: the greatest order.
        self.assertEqual(max(orders_met(curve)), told[-1] if told else 1)

    def test_kinds_of_greater_groups(self):
        found = set()
        for curve in curves((5, 7, 11), 2, 2000):
            told = kinds(curve)
            self.check_form(curve, told, class_number(curve))
            self.assertIs(is_makers(curve, makers(curve)), True)
            self.assertEqual(sum(orders_met(curve).values()), class_number(curve))
            found.add(len(told))
        self.assertGreater(len(found), 2)

    def test_makers(self):
        for curve in curves((3, 5), 3, 120):
            found = makers(curve)
            self.assertIsInstance(found, tuple)
            self.assertEqual(tuple(order for _, order in found), kinds(curve))
            for triple, order in found:
                self.assertEqual((triple.curve, order_of(triple)), (curve, order))
            made = sums(found, zero_triple(curve))
            self.assertEqual(sorted(made), sorted(str(triple) for triple in all_triples(curve)))
            self.assertIs(is_makers(curve, found), True)
            self.near(curve, found)

    def near(self, curve, found):
        zero = zero_triple(curve)
        pairs = list(found)
        other = zero_triple(QUINT if curve != QUINT else EVEN)
        bad = [pairs, found + ((zero, 1),), ((zero, 1),) + found, found + ((zero, 2),), None, 0, True, "", curve, zero, {},
               found + (None,), found + ((zero,),), found + found if found else ((zero, 1),), tuple(triple for triple, _ in found) or zero,
               tuple(order for _, order in found) or 1, ((other, 2),) + found]
        for at, (triple, order) in enumerate(found):
            for pair in ((triple, order + 1), (triple, 2 * order), (triple, str(order)), (zero, order), (other, order),
                         [triple, order], (order, triple), (triple, order, 0), (triple,), (triple, None),
                         ((triple.u, triple.v, triple.n), order), (triple, -order)):
                bad.append(found[:at] + (pair,) + found[at + 1:])
            bad.append(found[:at] + found[at + 1:])
            if order > 2:
                self.assertIs(is_makers(curve, found[:at] + ((triple.opposite(), order),) + found[at + 1:]), True)
            for q in (2, 3, 5):
                if order % q == 0:
                    bad.append(found[:at] + ((triple.times(q), order),) + found[at + 1:])
                elif order > 1:
                    self.assertIs(is_makers(curve, found[:at] + ((triple.times(q), order),) + found[at + 1:]), True)
        if len(found) > 1:
            (one, low), (two, high) = found[-2:]
            if low != high:
                bad.append(found[:-2] + ((two, high), (one, low)))
            self.assertIs(is_makers(curve, found[:-2] + ((one, low), (two.plus(one), high))), True)
            bad.append(found[:-2] + ((two.times(high // low), low), (two, high)))
            bad.append(found[:-2] + ((one, low), (one, high)))
        for value in bad:
            self.assertIs(is_makers(curve, value), False)

    def test_all_makers_of_small_groups(self):
        # Every pair of triples with the right orders, against all sums of multiples.
        tried = 0
        for curve in curves((3, 5), 6, 40):
            told = kinds(curve)
            if len(told) == 2 and class_number(curve) <= 24:
                tried += 1
                found, zero = list(all_triples(curve)), zero_triple(curve)
                for one in found:
                    for other in found:
                        value = ((one, told[0]), (other, told[1]))
                        whole = (order_of(one), order_of(other)) == told and len(set(sums(value, zero))) == class_number(curve)
                        self.assertIs(is_makers(curve, value), whole)
        self.assertGreater(tried, 1)

    def test_parts_as_makers(self):
        # The group is a sum of parts in other ways, too; makers have each order a divisor of the next one.
        triple, order = makers(EVEN)[0]
        self.assertEqual(order, 21)
        self.assertIs(is_makers(EVEN, ((triple.times(7), 3), (triple.times(3), 7))), False)
        self.assertIs(is_makers(EVEN, ((triple.times(3), 7), (triple.times(7), 3))), False)

    def test_halves(self):
        shapes = set()
        for curve in curves((3, 5, 7), 4, 300):
            zero = zero_triple(curve)
            expected = tuple(triple for triple in all_triples(curve) if triple.plus(triple) == zero)
            self.assertEqual(halves(curve), expected)
            self.assertEqual(count_halves(curve), len(expected))
            if curve.kind == "one":
                f, p = curve.f.entries, curve.prime
                divisors = [u for u in plain.divisors(p, f) if len(u) - 1 <= curve.genus] if p == 3 else None
                if divisors is not None:
                    self.assertEqual([(triple.u.entries, triple.v.entries) for triple in expected], [(u, ()) for u in divisors])
            shapes.add((curve.kind, curve.genus, len(expected) > 1))
        self.assertGreater(len(shapes), 10)

    def test_halves_by_factors(self):
        tried = set()
        for p, top in ((3, 8), (5, 6)):
            known = {degree: list(islice(irreducibles(p, degree), 6)) for degree in range(1, top + 1)}
            for n in range(1, top + 1):
                for degrees in shares(n, n):
                    if all(degrees.count(degree) <= len(known[degree]) for degree in degrees):
                        f = Poly(p, (1,))
                        for at, degree in enumerate(degrees):
                            f = f * known[degree][degrees[:at].count(degree)]
                        for residue in (1, p - 1):
                            curve = Curve(f.scaled(residue))
                            if curve.kind != "none":
                                tried.add(degrees)
                                self.assertEqual(len(halves(curve)), count_halves(curve), (p, degrees))
        # All partings of 1 to 8 but those with more factors of degree 1 or 2 than there are.
        self.assertEqual(len(tried), len([1 for n in range(1, 9) for one in shares(n, n)
                                          if one.count(1) <= (5 if n < 7 else 3) and one.count(2) <= (6 if n < 7 else 3)]))

    def test_halves_of_every_kind(self):
        for p in PRIMES:
            for row in plain.curve_rows(p, 2):
                curve = Curve(Poly(p, row))
                degrees = [len(part.entries) - 1 for part, _ in parts(curve.f)[1]]
                if curve.kind == "one":
                    expected = 2 ** (len(degrees) - 1)
                elif any(degree % 2 for degree in degrees):
                    expected = 2 ** (len(degrees) - 2)
                else:
                    expected = 2 ** (len(degrees) - 1 + curve.genus % 2)
                self.assertEqual(count_halves(curve), expected)
                # There are as many for the twist, whose f has the same factors.
                self.assertEqual(count_halves(curve.twist()), expected)
                if p ** curve.genus <= 3000:
                    self.assertEqual(class_number(curve) % 2 == 0, expected > 1)
                    self.assertEqual(class_number(curve) % expected, 0)

    def test_genus_zero(self):
        for p in PRIMES:
            for row in plain.curve_rows(p)[:3]:
                curve = Curve(Poly(p, row))
                self.assertEqual(count_halves(curve), 1)
                if curve.kind != "none":
                    self.assertEqual((kinds(curve), makers(curve), orders_met(curve)), ((), (), {1: 1}))
                    self.assertEqual(halves(curve), (zero_triple(curve),))
                    self.assertIs(is_makers(curve, ()), True)
                    self.assertIs(is_makers(curve, ((zero_triple(curve), 1),)), False)

    def test_not_true(self):
        # [12.5], one after the other.
        odd, unlike, by_l = [], [], {}
        for row in plain.all_curve_rows(3, 5) + plain.all_curve_rows(3, 6)[:300]:
            curve = Curve(Poly(3, row))
            if curve.kind == "none":
                continue
            told = kinds(curve)
            if class_number(curve) % 2 and len(told) > 1:
                odd.append(curve)
            if by_l.setdefault(l_of(curve), told) != told:
                unlike.append(curve)
        self.assertTrue(odd and unlike)
        for curve in odd[:1]:
            self.assertLess(max(orders_met(curve)), class_number(curve))
        # Two triples of orders 4 and 4 with one double, neither a multiple of the other one.
        triple, order = makers(EVEN)[0]
        one, other = triple.times(3), triple.times(7)
        self.assertEqual(one.times(7), other.times(3))
        self.assertFalse(any(one.times(many) == other or other.times(many) == one for many in range(order)))

    def test_too_many(self):
        found = set()
        for p, many in ((11, 8), (13, 4)):
            for row in plain.curve_rows(p, many):
                curve = Curve(Poly(p, row))
                if curve.kind != "none" and curve.genus == 3:
                    above = class_number(curve) > 2000
                    if above not in found:
                        found.add(above)
                        for call in (kinds, makers, orders_met, halves):
                            if above:
                                self.refused(call, (curve,), TooMany, limit=2000)
                            else:
                                call(curve)
                        if above:
                            for value in (None, (), ((zero_triple(curve), 2),)):
                                self.refused(is_makers, (curve, value), TooMany, limit=2000)
        self.assertEqual(found, {False, True})
        # Just as many as there may be.
        curve = Curve(Poly(13, (12, 2, 10, 9, 9, 5, 3, 12, 1)))
        self.assertEqual(class_number(curve), 2000)
        self.assertTrue(is_makers(curve, makers(curve)))
        self.assertEqual((sum(orders_met(curve).values()), len(halves(curve))), (2000, count_halves(curve)))
        self.assertEqual(len(list(all_triples(curve))), 2000)
        great = Curve.read(17, "x^7+x+3")
        for call in (kinds, makers, orders_met, halves, lambda curve: is_makers(curve, None)):
            self.refused(call, (great,), TooMany, limit=3000)
        self.assertEqual(count_halves(great), 2 ** (len(parts(great.f)[1]) - 1))

    def test_wrong_arguments(self):
        bad = wrong(NO_CURVES, InvalidCurve)
        none = wrong((NONE, Curve.read(3, "2x^2+1"), Curve.read(31, "3x^8+x+1")), InvalidOperation)
        for call in (kinds, makers, orders_met, halves):
            self.refusals(call, (QUINT,), (bad + none,))
        self.refusals(count_halves, (QUINT,), (bad,))
        self.assertEqual(count_halves(NONE), 2 ** (len(parts(NONE.f)[1]) - 1))
        for value in NO_CURVES:
            self.refused(is_makers, (value, makers(QUINT)), InvalidCurve)
        for value in (None, ()):
            self.refused(is_makers, (NONE, value), InvalidOperation)


if __name__ == "__main__":
    unittest.main()
