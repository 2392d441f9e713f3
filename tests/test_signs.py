"""[0.10], [4.1] to [4.6]: signs, and roots modulo a polynomial."""

import unittest
from itertools import islice

from tests import plain
from tests.plain import NO_INTEGERS, NO_POLYS, PRIMES, SIXTY, Refusals, wrong
from twinsheets.errors import InvalidCount, InvalidOperation, InvalidPoly, TooMany
from twinsheets.poly import signs
from twinsheets.poly.division import power_modulo
from twinsheets.poly.factors import irreducibles, parts
from twinsheets.poly.polys import Poly
from twinsheets.poly.signs import bar_modulo, is_bar_modulo, is_square_modulo, roots_modulo, sign, sign_sum, turned

ONE, ZERO, X = Poly(3, (1,)), Poly(3, ()), Poly(3, (0, 1))
NOT_MONIC = (ZERO, Poly(3, (2,)), Poly(3, (1, 2)), Poly(5, ()), Poly(5, (1, 3)))
NOT_SQUARE_FREE = (Poly(3, (0, 0, 1)), Poly(3, (1, 2, 1)), Poly(3, (1, 0, 0, 1)), Poly(5, (0, 0, 1)))
BAD = wrong(NO_POLYS, InvalidPoly)


def small_cases():
    """Triples of a prime and of rows f and u, the second one monic."""
    for p, size, top in ((3, 3, 3), (5, 2, 2), (7, 2, 2)):
        for degree in range(top + 1):
            for u in plain.monics(p, degree)[::1 if p == 3 else 4]:
                for f in plain.below(p, size)[::2] + [(1, 0, 0, 1), (0, 1, 2, 0, 1)]:
                    yield p, f, u


class SignTest(Refusals, unittest.TestCase):
    def test_by_factors_and_squares(self):
        for p, f, u in small_cases():
            self.assertEqual(sign(Poly(p, f), Poly(p, u)), plain.sign(p, f, u))

    def test_repeated_factors(self):
        for p in (3, 5):
            for u in plain.monics(p, 1) + plain.monics(p, 2)[:5]:
                for f in plain.below(p, 2):
                    told = plain.sign(p, f, u)
                    self.assertEqual(sign(Poly(p, f), Poly(p, plain.power(p, u, 2))), told * told)
                    self.assertEqual(sign(Poly(p, f), Poly(p, plain.power(p, u, 3))), told)

    def test_all_primes_by_powers(self):
        for p in PRIMES:
            for u in list(irreducibles(p, 1))[:4] + [next(irreducibles(p, 2)), next(irreducibles(p, 3))]:
                for f in plain.some_rows(p, 6, 4):
                    power = power_modulo(Poly(p, f), (p ** u.degree - 1) // 2, u)
                    told = {(): 0, (1,): 1, (p - 1,): -1}[power.entries]
                    self.assertEqual(sign(Poly(p, f), u), told)

    def test_multiplicative(self):
        for p in PRIMES:
            rows = [Poly(p, row) for row in plain.some_rows(p, 7, 6)]
            monics = [poly.monic() for poly in rows if not poly.is_zero]
            for f in rows:
                for g in rows:
                    for u in monics[:3]:
                        self.assertEqual(sign(f * g, u), sign(f, u) * sign(g, u))
                        self.assertEqual(sign(f + g * u, u), sign(f, u))
                for u in monics:
                    for w in monics:
                        self.assertEqual(sign(f, u * w), sign(f, u) * sign(f, w))

    def test_turned_about(self):
        for p in PRIMES:
            monics = [Poly(p, row + (1,)) for row in plain.some_rows(p, 8, 5)]
            for f in monics:
                for u in monics:
                    odd = (p - 1) // 2 * f.degree * u.degree % 2
                    self.assertEqual(sign(f, u), -sign(u, f) if odd else sign(u, f))

    def test_residues(self):
        for p in PRIMES:
            squares = {k * k % p for k in range(p)}
            for degree in range(1, 5):
                u = Poly(p, (1,) * degree + (1,))
                for c in range(1, p):
                    told = 1 if c in squares or degree % 2 == 0 else -1
                    self.assertEqual(sign(Poly(p, (c,)), u), told)

    def test_for_one(self):
        for p in PRIMES:
            for f in plain.some_rows(p, 5, 4) + [()]:
                self.assertEqual(sign(Poly(p, f), Poly(p, (1,))), 1)

    def test_of_zero(self):
        self.assertEqual([sign(ZERO, u) for u in (ONE, X, X * X, Poly(3, (1, 0, 1)))], [1, 0, 0, 0])

    def test_wrong_arguments(self):
        for call in (sign, turned):
            self.refusals(call, (X, ONE), (BAD, wrong(NO_POLYS + NOT_MONIC, InvalidPoly)))
            for other in (Poly(5, ()), Poly(5, (1, 1))):
                self.refused(call, (other, X), InvalidOperation)
            for other in (Poly(5, (1,)), Poly(5, (1, 1)), NOT_SQUARE_FREE[-1]):
                self.refused(call, (ZERO, other), InvalidOperation)
            # Here u need not be square-free.
            self.assertIn(call(X, X * X), (0, ((X, X * X, 1), (X * X, X, 1))))


class TurnedTest(unittest.TestCase):
    def check_turning(self, p, f, u):
        steps = turned(f, u)
        self.assertIs(type(steps), tuple)
        self.assertEqual(steps[0], (f, u, 1))
        for (g, w, s), (one, other, t) in zip(steps, steps[1:]):
            r = g % w
            self.assertFalse(r.is_zero or w == Poly(p, (1,)))
            turn = -1 if (p - 1) // 2 * w.degree * r.degree % 2 else 1
            self.assertEqual((one, other), (w, r.monic()))
            self.assertEqual(t, s * turn * plain.sign(p, (r.lead,), w.entries))
        g, w, s = steps[-1]
        self.assertTrue(w == Poly(p, (1,)) or (g % w).is_zero)
        self.assertEqual(sign(f, u), s if w == Poly(p, (1,)) else 0)

    def test_to_the_end(self):
        for p, f, u in small_cases():
            self.check_turning(p, Poly(p, f), Poly(p, u))

    def test_further_ones(self):
        for p in (3, 5, 7):
            for f in plain.some_rows(p, 8, 8, seed=2):
                for u in plain.some_rows(p, 8, 4, seed=3):
                    self.check_turning(p, Poly(p, f), Poly(p, u + (1,)))

    def test_ends(self):
        self.assertEqual(turned(ZERO, ONE), ((ZERO, ONE, 1),))
        self.assertEqual(turned(X, ONE), ((X, ONE, 1),))
        self.assertEqual(turned(ZERO, X), ((ZERO, X, 1),))
        self.assertEqual(turned(X * X, X), ((X * X, X, 1),))


class SumTest(Refusals, unittest.TestCase):
    def test_against_all_signs(self):
        for p, top in ((3, 3), (5, 2), (7, 1)):
            for f in plain.some_rows(p, 6, 5) + [(), (1,), (2,), (0, 1)]:
                for degree in range(top + 1):
                    told = sum(plain.sign(p, f, u) for u in plain.monics(p, degree))
                    self.assertEqual(sign_sum(Poly(p, f), degree), told)

    def test_zero_from_the_degree_on(self):
        for p, top in ((3, 7), (5, 4), (31, 2)):
            for f in plain.some_rows(p, 12, top + 1):
                found = plain.factors(p, f) if f else []
                is_square = all(found.count(factor) % 2 == 0 for factor in found)
                if not is_square:
                    for degree in range(len(f) - 1, top + 1):
                        self.assertEqual(sign_sum(Poly(p, f), degree), 0)

    def test_against_adding_up(self):
        # All degrees with at most 3000 polynomials; the sign itself is tested above.
        for p, top, many in ((3, 7, 2), (5, 4, 3), (7, 4, 1), (11, 3, 1), (13, 2, 2), (31, 1, 2)):
            squares = [plain.power(p, row, 2) for row in ((0, 1), (1, 1), (2, 0, 1), (1, 2, 1), (0, 2))]
            rows = [(), (1,), (2,), (p - 1,)] + squares + [plain.scale(p, row, 2) for row in squares]
            rows += [plain.times(p, squares[2], (0, 1)), plain.times(p, squares[1], (1, 0, 1))]
            for size in list(range(2, 7)) + [8, 9, 12, 17, 30]:
                rows += [row for row in plain.some_rows(p, 500, 30, seed=7) if len(row) == size][:many]
            for degree in range(top + 1):
                monics = [Poly(p, u) for u in plain.monics(p, degree)]
                for row in rows if len(monics) < 1000 else rows[::2]:
                    f = Poly(p, row)
                    self.assertEqual(sign_sum(f, degree), sum(sign(f, u) for u in monics), (p, row, degree))

    def test_residues_times_squares(self):
        for p, top in ((3, 7), (5, 4), (7, 4)):
            for row in plain.some_rows(p, 12, 5):
                for lead in range(1, p):
                    f = Poly(p, plain.scale(p, plain.power(p, row, 2), lead))
                    self.assertIs(signs.is_scaled_square(p, f.entries), True)
                    # Signs are those of a residue, but 0 where there is a common factor.
                    held = Poly(p, (lead,)) if row else f
                    told = sum(sign(held, Poly(p, u)) for u in plain.monics(p, 2) if row and plain.common(p, row, u) == (1,))
                    self.assertEqual(sign_sum(f, 2), told)
                    for further in ((0, 1), (1, 0, 1), (2, 1)):
                        if row and plain.is_square_free(p, further):
                            product = plain.times(p, f.entries, further)
                            self.assertIs(signs.is_scaled_square(p, product), False)

    def test_bound(self):
        for p, top in ((3, 7), (5, 4), (7, 4), (11, 3), (13, 3), (17, 2), (31, 2)):
            self.assertLessEqual(p ** top, 3000)
            self.assertEqual(sign_sum(Poly(p, (1,)), top), p ** top)
            for degree in (top + 1, 1000, SIXTY):
                self.refused(sign_sum, (Poly(p, ()), degree), TooMany, limit=3000)

    def test_wrong_arguments(self):
        self.refusals(sign_sum, (X, 1), (BAD, wrong((-1, -SIXTY) + NO_INTEGERS, InvalidCount, "value")))
        self.assertEqual((signs.MAX_SUMMED, signs.MAX_ROOTS), (3000, 1000))


class RootsTest(Refusals, unittest.TestCase):
    def check_roots(self, p, f, u):
        told = [w for w in plain.below(p, len(u) - 1) if not plain.rest(p, plain.less(p, f, plain.times(p, w, w)), u)]
        f, u = Poly(p, f), Poly(p, u)
        found = roots_modulo(f, u)
        self.assertIs(type(found), tuple)
        self.assertEqual([root.entries for root in found], told)
        self.assertIs(is_square_modulo(f, u), bool(told))
        factors = [part for part, _ in parts(u)[1]]
        bars = [part for part in factors if sign(f, part) == -1]
        self.assertEqual(bar_modulo(f, u), bars[0] if bars else None)
        for part in factors:
            self.assertIs(is_bar_modulo(f, u, part), part in bars)
        if told:
            self.assertEqual(len(told), 2 ** sum(not (f % part).is_zero for part in factors))

    def test_against_all_polynomials(self):
        for p, top in ((3, 4), (5, 2), (7, 2), (11, 1), (31, 1)):
            for degree in range(top + 1):
                for u in plain.monics(p, degree)[::1 if p < 11 else 6]:
                    if not any(plain.factors(p, u).count(part) > 1 for part in plain.factors(p, u)):
                        for f in plain.below(p, 2)[::1 if p == 3 else 7] + [(1, 2, 0, 0, 1), (0, 0, 1), (1, 1, 1)]:
                            self.check_roots(p, f, u)

    def test_irreducible_modulus(self):
        for p in PRIMES:
            for degree in (1, 2, 3, 4):
                u = next(irreducibles(p, degree))
                for row in plain.some_rows(p, 10, degree):
                    w = Poly(p, row)
                    found = roots_modulo(w * w, u)
                    told = [w] if w.is_zero else [w, -w]
                    self.assertEqual(list(found), sorted(told, key=lambda poly: poly.number))

    def test_great_degrees(self):
        for p in (3, 31):
            u = Poly(p, (0, 1))
            for degree in (1, 2, 16, 17, 18, 20):
                *_, last = islice(irreducibles(p, degree), 2)
                u = u * last
            self.assertEqual(u.degree, 75)
            w = Poly(p, plain.some_rows(p, 1, 90, seed=3)[0])
            found = roots_modulo(w * w, u)
            self.assertIn(w % u, found)
            self.assertTrue(all((root * root - w * w) % u == Poly(p, ()) for root in found))
            numbers = [root.number for root in found]
            self.assertEqual(numbers, sorted(set(numbers)))

    def test_bound(self):
        u = Poly(11, (1,))
        for root in range(9):
            u = u * Poly(11, (root, 1))
        unit = Poly(11, (1,))
        self.assertEqual(len(roots_modulo(unit, u)), 512)
        u = u * Poly(11, (9, 1))
        self.refused(roots_modulo, (unit, u), TooMany, limit=1000)
        self.assertIs(is_square_modulo(unit, u), True)
        # A factor that divides f has one root only; without any root there are not too many.
        self.assertEqual(len(roots_modulo(Poly(11, (0, 0, 1)), u)), 512)
        self.assertEqual(roots_modulo(Poly(11, (2,)), u), ())
        self.refused(roots_modulo, (unit, u * Poly(11, (10, 1))), TooMany, limit=1000)

    def test_for_one(self):
        for p in PRIMES:
            unit = Poly(p, (1,))
            for f in (Poly(p, ()), unit, Poly(p, (2,)), Poly(p, (1, 0, 2))):
                self.assertEqual(roots_modulo(f, unit), (Poly(p, ()),))
                self.assertIs(is_square_modulo(f, unit), True)
                self.assertIsNone(bar_modulo(f, unit))
                self.assertIs(is_bar_modulo(f, unit, unit), False)

    def test_bars_of_every_kind(self):
        f, u = Poly(3, (2,)), Poly(3, (0, 1, 1))
        self.assertEqual(bar_modulo(f, u), X)
        for value in (X, Poly(3, (1, 1))):
            self.assertIs(is_bar_modulo(f, u, value), True)
        for value in NO_POLYS + (ZERO, ONE, u, Poly(3, (0, 2)), Poly(3, (2, 1)), Poly(5, (0, 1)), (X,), [X],
                                 Poly(3, (1, 0, 1))):
            self.assertIs(is_bar_modulo(f, u, value), False)

    def test_products_are_no_bars(self):
        f, one, other = Poly(3, (2,)), Poly(3, (0, 1)), Poly(3, (1, 1))
        third = Poly(3, (2, 1))
        u = one * other * third
        self.assertEqual(sign(f, u), -1)
        self.assertIs(is_bar_modulo(f, u, u), False)
        self.assertIs(is_bar_modulo(f, u, third), True)

    def test_wrong_arguments(self):
        moduli = wrong(NO_POLYS + NOT_MONIC + NOT_SQUARE_FREE, InvalidPoly)
        calls = (is_square_modulo, roots_modulo, bar_modulo, lambda f, u: is_bar_modulo(f, u, None),
                 lambda f, u: is_bar_modulo(f, u, X))
        for call in calls:
            self.refusals(call, (ONE, X), (BAD, moduli))
            for other in (Poly(5, (1,)), Poly(5, (1, 1))):
                self.refused(call, (ZERO, other), InvalidOperation)
                self.refused(call, (other, X), InvalidOperation)
            # Not square-free comes ahead of unlike primes.
            self.refused(call, (X, NOT_SQUARE_FREE[-1]), InvalidPoly)


if __name__ == "__main__":
    unittest.main()
