"""[0.17], [13.1] to [13.9]: chains, units and solutions."""

import unittest
from itertools import product

from tests import plain
from tests import plain_triples
from tests.plain import NO_INTEGERS, NO_OBJECTS, SIXTY, Refusals, wrong
from twinsheets.chain import chains
from twinsheets.chain.chains import chain, ideal_classes, is_reduced_pair, is_solution, is_unit, least_unit, length_of, next_pair
from twinsheets.chain.chains import reduced_pairs, root_part, rounds, solve, unit_parts, unit_power
from twinsheets.curve.curves import Curve
from twinsheets.divisor.divisors import Divisor
from twinsheets.divisor.functions import Function
from twinsheets.errors import InvalidCount, InvalidCurve, InvalidFunction, InvalidPoly, InvalidTriple, TooMany
from twinsheets.group.orders import order_of
from twinsheets.group.triples import triple_of
from twinsheets.poly.polys import Poly, poly_at
from twinsheets.zeta.counts import class_number, l_of

QUINT, EVEN = Curve.read(3, "x^5+2x+1"), Curve.read(3, "x^6+2x^5+x^4+1")
NONE, LONG = Curve.read(3, "2x^6+x+1"), Curve.read(3, "x^6+x^2+x+1")
# Over 13 and of the genus 3, with a length above 2000; over 31, with a class number that is not told.
FAR = Curve(Poly(13, (1, 0, 0, 1, 0, 0, 0, 0, 1)))
NO_CURVES = NO_OBJECTS + (QUINT, NONE, QUINT.points(), Divisor(EVEN, {}), "y^2 = x^2 over 3", Curve.read(5, "2x^2+1"))


def curves(primes=(3, 5), many=3, limit=400):
    """Curves of the kind "two" of all genera from 0 to 3."""
    for p in primes:
        for row in plain.curve_rows(p, many):
            curve = Curve(Poly(p, row))
            if curve.kind == "two" and class_number(curve) <= limit:
                yield curve


def lesser_root(p, f):
    return next(s for s in range(p) if s * s % p == f[-1])


def root_plain(p, f):
    """S, by trying all."""
    g, s = plain.genus(f), lesser_root(p, f)
    found = [low + (0,) * (g + 1 - len(low)) + (s,) for low in plain.below(p, g + 1)]
    return [one for one in found if len(plain.less(p, f, plain.times(p, one, one))) <= g + 1]


def steps(p, f, root, many):
    """The chain by its rules."""
    one, other, found = (), (1,), []
    for _ in range(many):
        a = plain.split(p, plain.add(p, one, root), other)[0]
        found.append((a, one, other))
        one = plain.less(p, plain.times(p, a, other), one)
        other, rest = plain.split(p, plain.less(p, f, plain.times(p, one, one)), other)
        assert not rest
    return found


def fractions(p, found):
    """U(i) and V(i) for the triples of a chain."""
    us, vs = [(), (1,)], [(1,), ()]
    for a, _, _ in found:
        us.append(plain.add(p, plain.times(p, a, us[-1]), us[-2]))
        vs.append(plain.add(p, plain.times(p, a, vs[-1]), vs[-2]))
    return us[2:], vs[2:]


def norm(p, f, u, v):
    return plain.less(p, plain.times(p, u, u), plain.times(p, f, plain.times(p, v, v)))


def round_length(found):
    """m, and the length."""
    m = next(i for i in range(1, len(found)) if len(found[i][2]) == 1)
    return m, sum(len(a) - 1 for a, _, _ in found[:m])


def function(curve, u, v=()):
    p = curve.prime
    return Function(curve, Poly(p, u), Poly(p, v), Poly(p, (1,)))


def rows(triples):
    return [tuple(part.entries for part in triple) for triple in triples]


class ChainTest(Refusals, unittest.TestCase):
    def test_constants(self):
        self.assertEqual((chains.MAX_LENGTH, chains.MAX_POWER), (2000, 60))

    def test_root_part(self):
        for curve in curves((3, 5, 7), 3, 10 ** 6):
            p, f = curve.prime, curve.f.entries
            told = root_part(curve)
            self.assertEqual((told.degree, told.lead), (curve.genus + 1, lesser_root(p, f)))
            self.assertLessEqual((curve.f - told * told).degree, curve.genus)
            if p == 3 or curve.genus < 2:
                self.assertEqual([told.entries], root_plain(p, f))

    def test_chains(self):
        signs = set()
        for curve in curves((3, 5), 3, 120):
            p, f, g = curve.prime, curve.f.entries, curve.genus
            root = root_part(curve).entries
            expected = steps(p, f, root, 2 * length_of(curve) + 3)
            told = chain(curve, len(expected))
            self.assertIsInstance(told, tuple)
            self.assertEqual(rows(told), expected)
            for many in (0, 1, 2, 5):
                self.assertEqual(rows(chain(curve, many)), expected[:many])
            us, vs = fractions(p, expected)
            for i, (a, one, other) in enumerate(expected):
                self.assertEqual(len(a) - 1 + len(other) - 1, g + 1)
                if i:
                    self.assertTrue(len(one) == g + 2 and one[-1] == root[-1] and 0 < len(other) <= g + 1)
                if i + 1 < len(expected):
                    after = expected[i + 1][2]
                    self.assertEqual(norm(p, f, us[i], vs[i]), after if i % 2 else plain.scale(p, after, p - 1))
                self.assertEqual(plain.common(p, us[i], vs[i]), (1,))
            m, length = round_length(expected)
            self.assertEqual(length_of(curve), length)
            r = expected[m][2][0]
            signs.add((p, m % 2, r))
            for i in range(1, len(expected) - m):
                self.assertEqual(expected[m + i][1], expected[i][1])
                factor = plain.inverse(p, r) if i % 2 else r
                self.assertEqual(expected[m + i][2], plain.scale(p, expected[i][2], factor))
        # The residue of the round is a square, and is none, behind even and odd numbers of steps.
        self.assertTrue({(3, 0, 1), (3, 1, 1), (3, 1, 2)} <= signs, signs)

    def test_least_units(self):
        for curve in curves():
            p, f = curve.prime, curve.f.entries
            found = steps(p, f, root_part(curve).entries, 4 * class_number(curve) + 4)
            m, length = round_length(found)
            us, vs = fractions(p, found[:m])
            unit, factor = least_unit(curve), plain.inverse(p, us[-1][-1])
            self.assertEqual((unit.a.entries, unit.b.entries), (plain.scale(p, us[-1], factor), plain.scale(p, vs[-1], factor)))
            self.assertEqual((unit.curve, unit.c.entries, unit.a.lead, unit.a.degree), (curve, (1,), 1, length))
            self.assertTrue(unit.norm[0].degree == 0 and unit.norm[1].entries == (1,))
            self.assertEqual([unit.order_at(rim) for rim in curve.rims], [-length, length])
            self.assertIs(is_unit(curve, unit), True)

    def test_least_units_against_small_functions(self):
        met = 0
        for curve in curves((3,), 4):
            p, f, g = 3, curve.f.entries, curve.genus
            found = []
            for v in plain.below(p, 3 if g < 3 else 2):
                if v:
                    for u in plain.monics(p, g + len(v)):
                        if len(norm(p, f, u, v)) == 1:
                            found.append((len(u) - 1, u, v))
            unit = least_unit(curve)
            if found:
                low = min(found)[0]
                least = [(u, v) for degree, u, v in found if degree == low]
                self.assertEqual(low, length_of(curve))
                # The opposite one has a pole at the other rim.
                self.assertEqual(len(least), 2)
                met += 1
                self.assertIn((unit.a.entries, unit.b.entries), least)
                for degree, u, v in found:
                    self.assertIs(is_unit(curve, function(curve, u, v)), True)
                    self.assertEqual(degree % low, 0)
            else:
                self.assertGreater(length_of(curve), g + 3 if g < 3 else g + 2)
        self.assertGreater(met, 4)

    def test_lengths_and_orders(self):
        for curve in curves((3, 5, 7), 3, 3000):
            length = length_of(curve)
            first, second = curve.rims
            self.assertEqual(length, order_of(triple_of(Divisor(curve, {first: 1, second: -1}))[0]))
            self.assertEqual(length * ideal_classes(curve), class_number(curve))

    def test_powers(self):
        for curve in curves((3, 5), 2):
            p, length = curve.prime, length_of(curve)
            unit, one = least_unit(curve), function(curve, (1,))
            step, back = one, one.over(unit)
            power, less = one, one
            for many in range(61):
                if length * many > 2000:
                    for sign in (1, -1):
                        self.refused(unit_power, (curve, sign * many), TooMany, limit=2000)
                    continue
                if many < 8 or many in (59, 60):
                    step, less = unit.power(many), back.power(many)
                    for exponent, expected in ((many, step), (-many, less)):
                        told = unit_power(curve, exponent)
                        self.assertEqual(told, expected)
                        self.assertIs(is_unit(curve, told), True)
                        for residue in {1, 2, p - 1}:
                            self.assertEqual(unit_parts(curve, told * function(curve, (residue,))), (residue, exponent))
            self.assertEqual(power, unit_power(curve, 0))

    def test_parts_of_greater_units(self):
        for curve in (EVEN, LONG):
            unit = unit_power(curve, 60)
            for many, told in ((2, unit * unit), (3, unit * unit * unit), (-2, function(curve, (1,)).over(unit * unit))):
                self.assertEqual(unit_parts(curve, told * function(curve, (2,))), (2, 60 * many))

    def test_near_units(self):
        for curve in curves((3, 5), 1):
            p = curve.prime
            unit = least_unit(curve)
            x = function(curve, (0, 1))
            near = [unit + function(curve, (1,)), unit * x, unit.over(x), unit + unit.opposite() * x, function(curve, ()),
                    unit - unit, x, function(curve, (), (1,)), unit + x, Function(curve, unit.a, unit.b, Poly(p, (1, 1)))]
            for value in near:
                expected = value.c.degree == 0 and len(norm(p, curve.f.entries, value.a.entries, value.b.entries)) == 1
                self.assertIs(is_unit(curve, value), expected)
                if not expected:
                    self.refused(unit_parts, (curve, value), InvalidFunction)
            other = EVEN if curve != EVEN else LONG
            for value in (None, 0, 1, True, "", (), unit.a, (unit.a, unit.b), [unit], curve, least_unit(other),
                          function(QUINT, (1,)), function(other, (1,))):
                self.assertIs(is_unit(curve, value), False)
                self.refused(unit_parts, (curve, value), InvalidFunction)
            for residue in range(1, p):
                self.assertIs(is_unit(curve, function(curve, (residue,))), True)
                self.assertEqual(unit_parts(curve, function(curve, (residue,))), (residue, 0))
            for value in (unit.opposite(), -unit, unit * unit, unit.opposite() * unit):
                self.assertIs(is_unit(curve, value), True)
            norm_told = unit.norm[0].lead
            inverse = plain.inverse(p, norm_told)
            self.assertEqual(unit_parts(curve, unit.opposite() * function(curve, (inverse,))), (1, -1))

    def test_reduced_pairs(self):
        for curve in curves((3, 5), 3, 200):
            p, f, g = curve.prime, curve.f.entries, curve.genus
            expected = [(u, v) for u, v, n in plain_triples.all_triples(p, f) if n == 0]
            told = reduced_pairs(curve)
            self.assertIsInstance(told, tuple)
            self.assertEqual(rows(told), expected)
            self.assertEqual(sum(g + 2 - len(u) for u, _ in expected), class_number(curve))
            known = set(expected)
            for pair in told:
                self.assertIs(is_reduced_pair(curve, pair), True)
                u, v = pair
                for value in ([u, v], (u,), (u, v, u), (v, u), (u.scaled(2), v), (u * u, v), (u, v + u), (u, v + Poly(p, (1,))),
                              (u.entries, v.entries), (u, None), None, (u * Poly(p, (0, 1)), v), (Poly(31, (0, 1)), v)):
                    near = isinstance(value, tuple) and len(value) == 2 and rows([value])[0] in known if all(
                        isinstance(part, Poly) and part.prime == p for part in (value or (None,))) else False
                    self.assertIs(is_reduced_pair(curve, value), near)
                    if not near:
                        self.refused(next_pair, (curve, value), InvalidTriple)

    def test_next_pairs(self):
        for curve in curves((3, 5), 3, 200):
            p, f = curve.prime, curve.f.entries
            root, pairs = root_part(curve).entries, reduced_pairs(curve)
            after = []
            for u, v in rows(pairs):
                one = plain.less(p, root, plain.rest(p, plain.less(p, root, v), u))
                a = plain.split(p, plain.add(p, one, root), u)[0]
                further = plain.less(p, plain.times(p, a, u), one)
                other, rest = plain.split(p, plain.less(p, f, plain.times(p, further, further)), u)
                self.assertEqual(rest, ())
                monic = plain.scale(p, other, plain.inverse(p, other[-1]))
                after.append(((monic, plain.rest(p, further, monic)), len(a) - 1))
                told = next_pair(curve, (Poly(p, u), Poly(p, v)))
                self.assertIsInstance(told, tuple)
                self.assertEqual(rows([told])[0], after[-1][0])
            # Each pair is the next one of just one.
            self.assertEqual(sorted(pair for pair, _ in after), sorted(rows(pairs)))
            self.check_rounds(curve, dict(zip(rows(pairs), after)))

    def check_rounds(self, curve, after):
        p, told = curve.prime, rounds(curve)
        self.assertIsInstance(told, tuple)
        self.assertEqual(len(told), ideal_classes(curve))
        places = {pair: at for at, pair in enumerate(after)}
        met = []
        for one in told:
            self.assertIsInstance(one, tuple)
            found = rows(one)
            self.assertEqual(found[0], min(found, key=places.get))
            for pair, further in zip(found, found[1:] + found[:1]):
                self.assertEqual(after[pair][0], further)
            self.assertEqual(sum(after[pair][1] for pair in found), length_of(curve))
            met.extend(found)
        self.assertEqual(sorted(met, key=places.get), list(after))
        heads = [places[rows(one)[0]] for one in told]
        self.assertEqual(heads, sorted(heads))
        # The round of (1, 0) is the chain.
        m = len(told[0])
        expected = []
        for _, one, other in rows(chain(curve, m)):
            monic = plain.scale(p, other, plain.inverse(p, other[-1]))
            expected.append((monic, plain.rest(p, one, monic)))
        self.assertEqual(rows(told[0]), expected)
        self.assertEqual(expected[0], ((1,), ()))

    def test_solutions(self):
        yes, no = 0, 0
        for curve in list(curves((3,), 4)) + list(curves((5,), 1, 60)):
            p, f, g = curve.prime, curve.f.entries, curve.genus
            found = steps(p, f, root_part(curve).entries, 2 * length_of(curve) + 2)
            m, _ = round_length(found)
            known = set()
            for i in range(2 * m):
                for t in range(1, p):
                    known.add(plain.scale(p, found[i][2], (p - t * t if i % 2 else t * t) % p))
            small = self.small(p, f, g)
            for c in plain.below(p, g + 1)[1:]:
                told = solve(curve, Poly(p, c))
                self.assertEqual(told is not None, c in known, (p, f, c))
                if c in small:
                    self.assertIsNotNone(told)
                if told is None:
                    no += 1
                    continue
                yes += 1
                u, v = told.a.entries, told.b.entries
                self.assertEqual((told.curve, told.c.entries, norm(p, f, u, v), plain.common(p, u, v)), (curve, (1,), c, (1,)))
                self.assertIs(is_solution(curve, Poly(p, c), told), True)
                if len(small.get(c, ())) > 0:
                    # None has lesser degrees.
                    self.assertLessEqual(len(u), min(len(one) for one, _ in small[c]))
                for one, other in small.get(c, ())[:6]:
                    self.assertIs(is_solution(curve, Poly(p, c), function(curve, one, other)), True)
        self.assertTrue(yes > 100 and no > 100)

    def small(self, p, f, g):
        """The dict from c to the solutions with small V."""
        found = {}
        for v in plain.below(p, 3 if p == 3 and g < 3 else 2):
            for u in plain.below(p, g + 3 if p == 3 and g < 3 else g + 2):
                c = norm(p, f, u, v)
                if 0 < len(c) <= g + 1 and plain.common(p, u, v) == (1,):
                    found.setdefault(c, []).append((u, v))
        return found

    def test_near_solutions(self):
        for curve in (EVEN, LONG, Curve.read(5, "x^4+x+1"), Curve.read(7, "2x^2+1")):
            p = curve.prime
            unit, x = least_unit(curve), function(curve, (0, 1))
            for number in range(1, p ** (curve.genus + 1)):
                c = poly_at(p, number)
                told = solve(curve, c)
                for value in (None, 0, True, "", (), c, curve, x - x, function(QUINT, (1,)), [told], (told,)):
                    self.assertIs(is_solution(curve, c, value), False)
                if told is None or number > 60:
                    continue
                scaled = unit * told
                good = [told, -told, told.opposite(), scaled * unit.opposite()] if unit.norm[0].lead == 1 else [told, -told]
                for value in good:
                    self.assertIs(is_solution(curve, c, value), True)
                for value in (told * x, told.over(x), told + function(curve, (1,)), told * function(curve, (0, 0, 1))):
                    self.assertIs(is_solution(curve, c, value), value.c.degree == 0 and value.norm == (c, Poly(p, (1,)))
                                  and plain.common(p, value.a.entries, value.b.entries) == (1,))
                for residue in range(2, p):
                    told_norm = c.scaled(residue * residue % p)
                    value = told * function(curve, (residue,))
                    self.assertIs(is_solution(curve, told_norm, value), True)
                    self.assertIs(is_solution(curve, c, value), told_norm == c)
                self.assertIs(is_solution(curve, c.scaled(2), told), False)

    def test_common_factors(self):
        # The square of a polynomial of degree 1 is the norm of this polynomial, which has itself as a common factor.
        for p, text in ((3, "x^6+2x^5+x^4+1"), (5, "x^6+x+1"), (3, "x^8+x+2")):
            curve = Curve.read(p, text)
            for low in range(p):
                linear = Poly(p, (low, 1))
                value = Function(curve, linear, Poly(p, ()), Poly(p, (1,)))
                self.assertIs(is_solution(curve, linear * linear, value), False)
                self.assertIs(is_solution(curve, linear * linear, least_unit(curve) * value), False)
                told = solve(curve, linear * linear)
                if told is not None:
                    self.assertFalse(told.b.is_zero)
        for residue in range(1, 5):
            curve = Curve.read(5, "x^6+x+1")
            told = solve(curve, Poly(5, (residue * residue % 5,)))
            self.assertEqual((told.b.is_zero, told.a.degree), (True, 0))

    def test_not_true(self):
        # [13.9], one after the other; then the fifth sentence of [0.19].
        self.assertEqual(sorted(len(one) for one in rounds(EVEN)), [1, 2, 2, 2, 2, 3, 3])
        self.assertNotEqual(least_unit(EVEN).norm[0].lead, 1)
        norms, by_l, unlike, asked = set(), {}, [], []
        for row in plain.all_curve_rows(3, 6)[:400]:
            curve = Curve(Poly(3, row))
            if curve.kind == "two":
                norms.add(least_unit(curve).norm[0].lead)
                if by_l.setdefault(l_of(curve), length_of(curve)) != length_of(curve):
                    unlike.append(curve)
                for number in range(1, 9):
                    c = poly_at(3, number)
                    asked.append((solve(curve, c) is None, solve(curve, c.scaled(2)) is None))
        self.assertEqual(norms, {1, 2})
        self.assertTrue(unlike and (True, False) in asked)
        self.assertGreater(length_of(LONG), LONG.genus + 1)

    def test_bounds(self):
        far = []
        for row in plain.curve_rows(13, 12):
            curve = Curve(Poly(13, row))
            if curve.kind == "two" and curve.genus == 3:
                far.append((order_of(triple_of(Divisor(curve, {curve.rims[0]: 1, curve.rims[1]: -1}))[0]), curve))
        low, high = min(far, key=lambda pair: pair[0]), max(far, key=lambda pair: pair[0])
        self.assertTrue(low[0] <= 2000 < high[0])
        length, curve = low
        self.assertEqual((length_of(curve), least_unit(curve).a.degree), (length, length))
        self.assertEqual(unit_parts(curve, least_unit(curve)), (1, 1))
        self.assertEqual(ideal_classes(curve), class_number(curve) // length)
        for call in (lambda: length_of(high[1]), lambda: least_unit(high[1]), lambda: ideal_classes(high[1]),
                     lambda: unit_power(high[1], 0), lambda: unit_power(high[1], -60), lambda: solve(high[1], Poly(13, (1,)))):
            self.refused(call, (), TooMany, limit=2000)
        # What is told without the length has no bound.
        self.assertEqual(unit_parts(high[1], function(high[1], (7,))), (7, 0))
        self.assertEqual(len(chain(high[1], 2000)), 2000)
        self.assertTrue(is_solution(high[1], Poly(13, (4,)), function(high[1], (2,))))
        many = 2000 // 21
        for number in (60, -60):
            self.assertEqual(unit_power(LONG, number).a.degree, 1260)
        self.assertGreater(many, 60)
        curve = next(curve for curve in curves((5,), 6) if 34 <= length_of(curve) <= 100)
        most = 2000 // length_of(curve)
        self.assertEqual(unit_power(curve, most).a.degree, most * length_of(curve))
        for number in (most + 1, -most - 1, 60, -60):
            self.refused(unit_power, (curve, number), TooMany, limit=2000)

    def test_just_within_the_bounds(self):
        # A class number of 2000, and a length of 2000; then a length of 40.
        curve = Curve(Poly(13, (12, 2, 10, 9, 9, 5, 3, 12, 1)))
        self.assertEqual((class_number(curve), length_of(curve), ideal_classes(curve)), (2000, 2000, 1))
        unit = least_unit(curve)
        self.assertEqual((unit.a.degree, unit.a.lead, is_unit(curve, unit), unit_parts(curve, unit)), (2000, 1, True, (1, 1)))
        self.assertTrue(unit_power(curve, 0) == function(curve, (1,)) and unit_power(curve, -1) * unit == function(curve, (1,)))
        for number in (2, -2, 60):
            self.refused(unit_power, (curve, number), TooMany, limit=2000)
        pairs = reduced_pairs(curve)
        self.assertEqual(sum(4 - u.degree for u, _ in pairs), 2000)
        self.assertEqual([len(one) for one in rounds(curve)], [len(pairs)])
        short = Curve.read(5, "x^6+x^5+x^4+2x^3+4x^2+3x+4")
        self.assertEqual((length_of(short), unit_power(short, 50).a.degree, unit_power(short, -50).a.degree), (40, 2000, 2000))
        for number in (51, -51):
            self.refused(unit_power, (short, number), TooMany, limit=2000)

    def test_a_unit_of_a_great_length(self):
        # Told by the chain itself, with more than 2000 as its length.
        for row in plain.curve_rows(13, 12):
            curve = Curve(Poly(13, row))
            if curve.kind == "two" and curve.genus == 3 and class_number(curve) < 2500:
                length = order_of(triple_of(Divisor(curve, {curve.rims[0]: 1, curve.rims[1]: -1}))[0])
                if length > 2000:
                    break
        else:
            return
        before, after = (Poly(13, (1,)), Poly(13, ())), None
        u, v, low, high = Poly(13, (1,)), Poly(13, ()), Poly(13, ()), Poly(13, (1,))
        for at, (a, one, other) in enumerate(chain(curve, 2000)):
            if at and other.degree == 0:
                value = Function(curve, u, v, Poly(13, (1,)))
                self.assertTrue(is_unit(curve, value))
                self.assertEqual(unit_parts(curve, value), (u.lead, 1))
                break
            u, low = a * u + low, u
            v, high = a * v + high, v

    def test_class_number_bounds(self):
        found = set()
        for row in plain.curve_rows(13, 8) + plain.curve_rows(11, 4):
            for p in (11, 13):
                try:
                    curve = Curve(Poly(p, row))
                except ValueError:
                    continue
                if curve.kind == "two" and curve.genus == 3:
                    above = class_number(curve) > 2000
                    if above not in found:
                        found.add(above)
                        if above:
                            self.refused(reduced_pairs, (curve,), TooMany, limit=2000)
                            self.refused(rounds, (curve,), TooMany, limit=2000)
                        else:
                            pairs = reduced_pairs(curve)
                            self.assertEqual(sum(4 - u.degree for u, _ in pairs), class_number(curve))
                            self.assertEqual(sum(len(one) for one in rounds(curve)), len(pairs))
        self.assertEqual(found, {False, True})
        great = Curve.read(17, "x^8+x+3")
        for call in (ideal_classes, reduced_pairs, rounds):
            self.refused(call, (great,), TooMany, limit=3000)
        self.assertEqual(root_part(great).degree, 4)
        self.assertEqual(rows([next_pair(great, (Poly(17, (1,)), Poly(17, ())))])[0][0][-1], 1)

    def test_wrong_arguments(self):
        bad = wrong(NO_CURVES, InvalidCurve)
        for call in (root_part, length_of, least_unit, ideal_classes, reduced_pairs, rounds):
            self.refusals(call, (EVEN,), (bad,))
        counts = wrong((-1, 2001, SIXTY, -SIXTY) + NO_INTEGERS, InvalidCount, "value")
        self.refusals(chain, (EVEN, 3), (bad, counts))
        exponents = wrong((-61, 61, SIXTY, -SIXTY) + NO_INTEGERS, InvalidCount, "value")
        self.refusals(unit_power, (EVEN, 3), (bad, exponents))
        self.refused(unit_power, (LONG, 61), InvalidCount, value=61)
        functions = wrong(NO_OBJECTS + (QUINT, EVEN, function(QUINT, (1,))), InvalidFunction)
        self.refusals(unit_parts, (EVEN, least_unit(EVEN)), (bad, functions))
        no_polys = [value for value in NO_OBJECTS if not (isinstance(value, Poly) and value.prime == 3)]
        no_polys += [Poly(3, ()), Poly(3, (0, 0, 0, 1)), Poly(5, (1,)), EVEN, (1,), EVEN.f]
        self.refusals(solve, (EVEN, Poly(3, (1,))), (bad, wrong(no_polys, InvalidPoly)))
        for value in (None, function(EVEN, (1,))):
            for told in NO_CURVES:
                self.refused(is_solution, (told, Poly(3, (1,)), value), InvalidCurve)
                self.refused(is_solution, (told, None, value), InvalidCurve)
            for told in no_polys:
                self.refused(is_solution, (EVEN, told, value), InvalidPoly)
        for told in NO_CURVES:
            self.refused(is_unit, (told, least_unit(EVEN)), InvalidCurve)
            self.refused(is_reduced_pair, (told, (Poly(3, (1,)), Poly(3, ()))), InvalidCurve)
        no_pairs = NO_OBJECTS + (EVEN, (Poly(3, (1,)),), (Poly(3, (1,)), None), (Poly(3, (2,)), Poly(3, ())))
        self.refusals(next_pair, (EVEN, (Poly(3, (1,)), Poly(3, ()))), (bad, wrong(no_pairs, InvalidTriple)))


if __name__ == "__main__":
    unittest.main()
