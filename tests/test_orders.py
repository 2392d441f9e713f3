"""[12.1]: orders of triples, their papers, and logarithms."""

import unittest

from tests import plain
from tests.plain import NO_OBJECTS, Refusals, wrong
from tests.test_triples import curves, some
from twinsheets.curve.curves import Curve
from twinsheets.divisor.divisors import Divisor
from twinsheets.errors import InvalidOperation, InvalidTriple, TooMany
from twinsheets.group import orders
from twinsheets.group.orders import is_order_paper, logarithm, order_of, order_paper
from twinsheets.group.triples import Triple, all_triples, triple_of, zero_triple
from twinsheets.poly.polys import Poly
from twinsheets.zeta.counts import class_number

QUINT, EVEN = Curve.read(3, "x^5+2x+1"), Curve.read(3, "x^6+2x^5+x^4+1")
FIVE = Curve.read(5, "x^5+x+1")
SOME = Triple(QUINT, Poly(3, (0, 1)), Poly(3, (1,)))
NO_TRIPLES = NO_OBJECTS + (QUINT, SOME.divisor(), (SOME.u, SOME.v, 0), [SOME], {}, "(x, 1, 0)")


def multiples(triple):
    """All multiples of a triple, by adding it again and again, from 0 on."""
    found = [zero_triple(triple.curve)]
    while found[-1].plus(triple) != found[0]:
        found.append(found[-1].plus(triple))
    return found


def primes_of(number):
    return [q for q in range(2, number + 1) if number % q == 0 and all(q % k for k in range(2, q))]


class OrderTest(Refusals, unittest.TestCase):
    def test_constant(self):
        self.assertEqual(orders.MAX_ORDER, 10 ** 6)

    def test_orders(self):
        for curve in curves((3, 5), 2, 60):
            count = class_number(curve)
            for triple in all_triples(curve):
                order = order_of(triple)
                self.assertEqual(order, len(multiples(triple)))
                self.assertEqual(count % order, 0)

    def test_orders_of_greater_groups(self):
        for curve in curves((3, 5, 7), 1, 700):
            for triple in some(curve, 3, 11):
                self.assertEqual(order_of(triple), len(multiples(triple)))

    def test_papers(self):
        for curve in curves((3, 5, 7), 1, 300):
            zero = zero_triple(curve)
            for triple in some(curve, 4, 5):
                found = multiples(triple)
                order = len(found)
                expected = (order, tuple((q, found[order // q]) for q in primes_of(order)))
                paper = order_paper(triple)
                self.assertEqual(paper, expected)
                self.assertIsInstance(paper[1], tuple)
                self.assertIs(is_order_paper(triple, paper), True)
                self.near(triple, order, expected[1], zero)

    def near(self, triple, order, rows, zero):
        bad = [(2 * order, rows), (order + 1, rows), (0, ()), (-order, rows), (order, list(rows)), [order, rows], (order,),
               (order, rows, 0), (str(order), rows), (None, rows), (order, None), None, order, rows, triple, "", (), True,
               (order, rows + ((2, zero),)), (order, rows + rows[:1]) if rows else (1, ((1, zero),)),
               (order, rows[1:]) if rows else (2, ()), (order * 4, rows), (10 ** 12 + 39, rows), (10 ** 59, rows)]
        if order == 1:
            bad += [(True, ()), (2, ((2, zero),)), (3, ((3, zero),))]
        for at, (q, other) in enumerate(rows):
            for pair in ((q, zero), (q, other.plus(triple)), (q + 1, other), (float, other), [q, other], (q,), (other, q),
                         (q, None), (str(q), other), (q, other, 0), (q * q, other), (q, (other.u, other.v, other.n))):
                bad.append((order, rows[:at] + (pair,) + rows[at + 1:]))
            if q > 2:
                bad.append((order, rows[:at] + ((q, other.opposite()),) + rows[at + 1:]))
            # A multiple of the order with the papers that belong to it: what stands there is 0.
            bad.append((order * q, tuple((r, triple.times(order * q // r)) for r, _ in rows)))
        if len(rows) > 1:
            bad.append((order, rows[::-1]))
        for value in bad:
            self.assertIs(is_order_paper(triple, value), False, value)

    def test_papers_without_a_bound(self):
        # Over 17 and of the genus 3 the class number is not told, but a paper shows the order.
        curve = Curve.read(17, "x^7+x+3")
        self.refused(class_number, (curve,), TooMany, limit=3000)
        points = [place for place in curve.points() if place[0] != "rim"]
        two = [place for place in points if place[1] == ()]
        triple = triple_of(Divisor(curve, {points[0]: 1, ("rim", 0): -1}))[0]
        self.refused(order_of, (triple,), TooMany, limit=3000)
        self.refused(order_paper, (triple,), TooMany, limit=3000)
        self.refused(logarithm, (triple, triple), TooMany, limit=3000)
        # The order, by steps of a hundred multiples.
        steps, power = {}, zero_triple(curve)
        for at in range(100):
            steps[str(power)] = at
            power = power.plus(triple)
        far, many = power, 100
        while str(far) not in steps:
            far, many = far.plus(power), many + 100
        many -= steps[str(far)]
        order = next(k for k in range(1, many + 1) if many % k == 0 and triple.times(k) == zero_triple(curve))
        paper = (order, tuple((q, triple.times(order // q)) for q in primes_of(order)))
        self.assertIs(is_order_paper(triple, paper), True)
        self.assertIs(is_order_paper(triple, (order * 10 ** 5, paper[1])), False)
        for place in two:
            half = triple_of(Divisor(curve, {place: 1, ("rim", 0): -1}))[0]
            self.assertIs(is_order_paper(half, (2, ((2, half),))), True)

    def test_logarithms(self):
        missing = 0
        for curve in curves((3, 5), 2, 60):
            for base in some(curve, 3, 13):
                found = multiples(base)
                for other in all_triples(curve):
                    expected = found.index(other) if other in found else None
                    missing += expected is None
                    self.assertEqual(logarithm(base, other), expected)
        self.assertGreater(missing, 100)

    def test_logarithms_in_greater_groups(self):
        for curve in curves((5, 7, 11), 1, 2000):
            for base in some(curve, 2, 17):
                order = order_of(base)
                for many in {0, 1 % order, order - 1, order // 2, 777 % order, 12345 % order}:
                    self.assertEqual(logarithm(base, base.times(many)), many)

    def test_wrong_arguments(self):
        bad = wrong(NO_TRIPLES, InvalidTriple)
        for call in (order_of, order_paper):
            self.refusals(call, (SOME,), (bad,))
        for value in NO_TRIPLES:
            for other in (None, (29, ((29, SOME),))):
                self.refused(is_order_paper, (value, other), InvalidTriple)
        self.refusals(logarithm, (SOME, SOME), (bad, bad))
        self.refused(logarithm, (SOME, zero_triple(EVEN)), InvalidOperation)
        self.refused(logarithm, (zero_triple(FIVE), SOME), InvalidOperation)
        # Two curves come ahead of a class number that is not told.
        great = zero_triple(Curve.read(17, "x^7+x+3"))
        self.refused(logarithm, (great, SOME), InvalidOperation)
        self.refused(logarithm, (great, great), TooMany, limit=3000)


if __name__ == "__main__":
    unittest.main()
