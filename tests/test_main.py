"""[0.2] to [0.7] over the newer modules, [0.13] to [0.19]: the main statements."""

import unittest
from fractions import Fraction

from tests import plain
from tests.plain import Refusals
from twinsheets.chain.chains import ideal_classes, least_unit, length_of, reduced_pairs, rounds, unit_power
from twinsheets.coded.codes import Code, code_points
from twinsheets.curve.changes import Change, between, changed, each_change, led, own_changes
from twinsheets.curve.curves import Curve
from twinsheets.curve.places import opposite, places
from twinsheets.divisor.divisors import Divisor, divisor_of, place_divisor
from twinsheets.divisor.functions import Function
from twinsheets.divisor.spaces import are_alike, canonical, function_between, size_of
from twinsheets.errors import TooMany
from twinsheets.family.families import families, family_of, mass
from twinsheets.group.kinds import is_makers, kinds, makers, orders_met
from twinsheets.group.orders import order_of
from twinsheets.group.triples import all_triples, is_paper, triple_of, zero_triple
from twinsheets.poly.polys import Poly
from twinsheets.use.bench import Bench
from twinsheets.zeta.counts import by_points, by_signs, by_table, class_number, l_of, places_of, points_over

QUINT, EVEN = Curve.read(3, "x^5+2x+1"), Curve.read(3, "x^6+2x^5+x^4+1")
NONE, LONG = Curve.read(3, "2x^6+x+1"), Curve.read(3, "x^6+x^2+x+1")


def curves(primes=(3, 5, 7), many=2, limit=500):
    for p in primes:
        for row in plain.curve_rows(p, many):
            curve = Curve(Poly(p, row))
            if class_number(curve) <= limit:
                yield curve


def some_divisor(curve, seed, degree=0):
    """A divisor of this degree."""
    spots = plain.places(curve.prime, curve.f.entries, 2 if curve.prime == 3 else 1)
    table = {}
    for _ in range(3):
        seed = (seed * 1103515245 + 12345) % 2 ** 31
        table[spots[seed // 65536 % len(spots)]] = seed // 7 % 5 - 2
    first = curve.rims[0]
    rest = sum(many * plain.degree_of(place) for place, many in table.items() if place != first)
    table[first] = degree - rest
    return Divisor(curve, table)


class MainTest(Refusals, unittest.TestCase):
    def test_all_roads_to_one_number(self):
        met = set()
        for curve in curves():
            p, g, told = curve.prime, curve.genus, l_of(curve)
            met.add((curve.kind, g))
            self.assertEqual(by_points(curve), told)
            self.assertEqual(by_signs(curve), told)
            self.assertEqual(by_table(curve), tuple(entry % p for entry in told[:g + 1]))
            count = class_number(curve)
            self.assertEqual(count, sum(told))
            self.assertEqual(points_over(curve, 1), len(curve))
            self.assertEqual(places_of(curve, 2), len(list(places(curve, 2))))
            twisted = l_of(curve.twist())
            self.assertEqual(twisted, tuple(-entry if at % 2 else entry for at, entry in enumerate(told)))
            if curve.kind == "none":
                continue
            self.assertEqual(len(list(all_triples(curve))), count)
            total = 1
            for kind in kinds(curve):
                total *= kind
            self.assertEqual(total, count)
            self.assertTrue(is_makers(curve, makers(curve)))
            if curve.kind == "two":
                self.assertEqual(length_of(curve) * len(rounds(curve)), count)
                self.assertEqual(ideal_classes(curve), len(rounds(curve)))
                self.assertEqual(sum(g + 1 - u.degree for u, _ in reduced_pairs(curve)), count)
        self.assertEqual(len(met), 12)

    def test_changed_curves(self):
        tried = 0
        for curve in curves((3, 5), 1, 200):
            told = {}
            for change in list(each_change(curve.prime, curve.genus))[::37]:
                other = changed(curve, change)
                tried += 1
                self.assertEqual(l_of(other), l_of(curve))
                self.assertEqual(family_of(other), family_of(curve))
                if other.kind != "none":
                    # The group is the same one on all curves to which changes lead.
                    told[kinds(other)] = True
                    if curve.kind != "none":
                        self.check_led(curve, other, change)
            self.assertLessEqual(len(told), 1)
        self.assertGreater(tried, 30)

    def check_led(self, curve, other, change):
        """Differences of points have the orders of those to which they are led."""
        points = curve.points()
        for one, two in list(zip(points, points[1:]))[:3]:
            here = triple_of(place_divisor(curve, one) - place_divisor(curve, two))[0]
            there = triple_of(place_divisor(other, led(curve, change, one)) - place_divisor(other, led(curve, change, two)))[0]
            self.assertEqual(order_of(here), order_of(there))

    def test_one_triple(self):
        for curve in curves((3, 5), 1, 60):
            if curve.kind == "none":
                continue
            found = list(all_triples(curve))
            for seed in range(6):
                one, other = some_divisor(curve, seed), some_divisor(curve, seed + 50)
                alike = [triple for triple in found if are_alike(one, triple.divisor())]
                self.assertEqual(alike, [triple_of(one)[0]])
                self.assertTrue(is_paper(one, triple_of(one)))
                self.assertEqual(are_alike(one, other), triple_of(one)[0] == triple_of(other)[0])
                function = function_between(one, alike[0].divisor())
                self.assertEqual(divisor_of(function), one - alike[0].divisor())

    def test_spaces(self):
        for curve in curves((3, 5, 7), 1):
            for seed in range(5):
                for degree in range(-1, 2 * curve.genus + 2):
                    # The only place at the rim of the kind "none" has the degree 2.
                    divisor = some_divisor(curve, seed, 0 if curve.kind == "none" else degree)
                    less = canonical(curve) - divisor
                    self.assertEqual(size_of(divisor) - size_of(less), divisor.degree + 1 - curve.genus)

    def test_units(self):
        for curve in curves((3, 5, 7), 2):
            if curve.kind == "two":
                first, second = curve.rims
                less = Divisor(curve, {first: -1, second: 1})
                length = length_of(curve)
                self.assertEqual(length, order_of(triple_of(less)[0]))
                self.assertEqual(divisor_of(least_unit(curve)), less.times(length) if length <= 200 else None)
                self.assertEqual(divisor_of(unit_power(curve, -1)), less.times(-length))
                told = function_between(less.times(length), less - less)
                self.assertTrue(told.over(least_unit(curve)).is_residue)

    def test_the_same_curve(self):
        for p, g in ((3, 2), (5, 1), (7, 1)):
            told = families(p, g)
            self.assertEqual(sum(Fraction(1, many) for _, many in told), Fraction(*mass(p, g)))
            self.assertEqual(mass(p, g), (p ** (2 * g - 1), 1))
            for (one, _), (other, _) in zip(told[::5], told[1::5]):
                self.assertIsNone(between(one, other))
            self.assertEqual(len(own_changes(told[0][0])), told[0][1])

    def test_not_true(self):
        # [0.19], one sentence after the other.
        heads = [head for head, _ in families(3, 2)]
        by_many, by_l = {}, {}
        for head in heads:
            by_many.setdefault(len(head), set()).add(l_of(head))
            by_l.setdefault(l_of(head), []).append(head)
        self.assertTrue(any(len(told) > 1 for told in by_many.values()))
        one, other = next(found for found in by_l.values() if len(found) > 1)[:2]
        self.assertIsNone(between(one, other))
        both = [place_divisor(QUINT, place) + place_divisor(QUINT, opposite(QUINT, place)) for place in QUINT.points()[1:4:2]]
        self.assertTrue(are_alike(*both))
        self.assertTrue(both[0] != both[1] and both[0].degree == both[1].degree == QUINT.genus)
        self.assertEqual((class_number(QUINT), class_number(QUINT.twist())), (29, 5))
        self.assertEqual((least_unit(LONG).a.degree, LONG.genus), (21, 2))
        y = Function(QUINT, Poly(3, ()), Poly(3, (1,)), Poly(3, (1,)))
        told = divisor_of(y).table
        self.assertEqual([place for place, many in told.items() if many < 0], [("rim", 0)])
        self.assertEqual([place for place, many in told.items() if many > 0], [((1, 2, 0, 0, 0, 1), ())])


class ConventionTest(Refusals, unittest.TestCase):
    def test_generators_raise_late(self):
        code = Code(Divisor(Curve.read(7, "x^5+x+3"), {("rim", 0): 9}), code_points(Divisor(Curve.read(7, "x^5+x+3"), {}))[:6])
        told = code.words()
        self.refused(lambda: next(told), (), TooMany, limit=4000)
        for call in (lambda: all_triples(None), lambda: all_triples(NONE)):
            call()

    def test_generators_go_on_by_themselves(self):
        one, other = all_triples(QUINT), all_triples(QUINT)
        self.assertEqual([next(one), next(one), next(other)], [zero_triple(QUINT), next(x for x in all_triples(QUINT) if x.u.degree), zero_triple(QUINT)])

    def test_what_cannot_be_iterated_over(self):
        code = Code(Divisor(QUINT, {("rim", 0): 4}), code_points(Divisor(QUINT, {})))
        bench = Bench({"one": QUINT})
        for value in (zero_triple(QUINT), code, bench.trial()):
            self.assertRaises(TypeError, iter, value)
        self.assertEqual(list(iter(bench)), list(bench.lines))

    def test_nothing_is_shared(self):
        divisor = zero_triple(QUINT).divisor()
        divisor.table[("rim", 0)] = 5
        self.assertEqual(zero_triple(QUINT).divisor().table, {})
        bench = Bench({"one": QUINT})
        bench.mark("d", "one", Divisor(QUINT, {("rim", 0): 1}))
        bench.divisor_named("d").table.clear()
        self.assertEqual(bench.divisor_named("d").table, {("rim", 0): 1})
        told = orders_met(EVEN)
        told.clear()
        self.assertEqual(orders_met(EVEN)[21], 12)

    def test_equal_calls(self):
        for call in (makers, kinds, rounds, least_unit):
            self.assertEqual(call(EVEN), call(Curve.read(3, "x^6+2x^5+x^4+1")))
        change = Change(3, 2, (0, 1, 1, 0), 1)
        self.assertEqual(changed(QUINT, change), changed(QUINT, change))


if __name__ == "__main__":
    unittest.main()
