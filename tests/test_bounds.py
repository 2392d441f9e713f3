"""[8.5]: the row of sums, and the bounds of its roots."""

import unittest
from fractions import Fraction
from itertools import product

from tests import plain
from tests.plain import NO_OBJECTS, NO_PRIMES, PRIMES, SIXTY, Refusals, wrong
from twinsheets.curve.curves import Curve
from twinsheets.errors import InvalidPaper, InvalidPrime
from twinsheets.field.fields import points_walked
from twinsheets.poly.polys import Poly
from twinsheets.zeta.bounds import are_bounded, sums_row

NO_TUPLES = NO_OBJECTS + ((), (1, 3), (1, 2, 3, 4), (1, 0, 0, 0, 0, 0, 0, 0, 81), (2, 3, 6), (0, 0, 0), (-1, 0, 3),
                          (1, 0, 4), (1, 2, -3), (1, 3, 7, 9, 8), (1, 3, 7, 8, 9), (1, 3, 7, 3, 9), (1, 0, 0, 6, 0, 0, 26),
                          (1, 0, 1, 6, 0, 3, 27), (1, 1, 0, 6, 0, 3, 27), [1, 0, 3], (True, 0, 3), (1, False, 3), (1, "0", 3),
                          (1, None, 3), (1, (0,), 3), ((1,), 0, 3), (1, SIXTY + 1, 3 * SIXTY + 3), (1, 0, 3, 0), (1, 0))


def turned(p, low):
    """The tuple with these entries 0 to g that can be turned about."""
    genus = len(low) - 1
    return tuple(low) + tuple(p ** (genus - i) * low[i] for i in range(genus))[::-1]


def l_plain(curve):
    """L, by counting points over the fields."""
    p, genus = curve.prime, curve.genus
    sums = [None] + [p ** k + 1 - points_walked(curve.f, k) for k in range(1, genus + 1)]
    low = [1]
    for k in range(1, genus + 1):
        low.append(-sum(sums[i] * low[k - i] for i in range(1, k + 1)) // k)
    return turned(p, low)


def from_sums(p, row):
    """The tuple whose row of sums this is: the product of all 1 - x T + p T ** 2, term by term."""
    genus = len(row) - 1
    entries = [0] * (2 * genus + 1)
    # T ** g times the row at T + p / T is the sum of all entries times (T * T + p) ** k * T ** (g - k).
    for k, entry in enumerate(row):
        power = [1]
        for _ in range(k):
            power = [a + b for a, b in zip([p * x for x in power] + [0, 0], [0, 0] + power)]
        for at, part in enumerate(power):
            entries[at + genus - k] += entry * part
    return tuple(reversed(entries))


def product_of(factors):
    row = [1]
    for factor in factors:
        found = [0] * (len(row) + len(factor) - 1)
        for i, a in enumerate(row):
            for j, b in enumerate(factor):
                found[i + j] += a * b
        row = found
    return row


def rest_of(one, other):
    one = list(one)
    while len(one) >= len(other):
        factor = Fraction(one[-1]) / other[-1]
        shift = len(one) - len(other)
        one = [a - factor * (other[k - shift] if k >= shift else 0) for k, a in enumerate(one)][:-1]
    while one and one[-1] == 0:
        one.pop()
    return one


def value(row, at):
    return sum(entry * at ** k for k, entry in enumerate(row))


def changes_of_sign(chain, at):
    signs = [told > 0 for told in (value(row, at) for row in chain) if told != 0]
    return sum(a != b for a, b in zip(signs, signs[1:]))


def are_within(row, low, high):
    """Whether all roots are real and from low to high, by a chain of remainders."""
    if len(row) == 1:
        return True
    chain = [list(row), [k * entry for k, entry in enumerate(row)][1:]]
    while True:
        rest = rest_of(chain[-2], chain[-1])
        if not rest:
            break
        chain.append([-entry for entry in rest])
    # The last one of the chain tells the double roots.
    different = len(row) - len(chain[-1])
    found = changes_of_sign(chain, low) - changes_of_sign(chain, high)
    return found == different


def are_bounded_plain(p, row):
    """All roots are real with squares up to 4 p just if all squares of roots are real, from 0 to 4 p."""
    turned_row = [(-1) ** k * entry for k, entry in enumerate(row)]
    squares = product_of([row, turned_row])[::2]
    if len(row) % 2 == 0:
        squares = [-entry for entry in squares]
    # A little further out on both sides, where none of the tried ones has a root.
    little = Fraction(1, 10 ** 9)
    return are_within(squares, -little, 4 * p + little)


class BoundsTest(Refusals, unittest.TestCase):
    def check(self, p, told):
        """The row of a tuple is turned back into the tuple, and its bounds are those of the plain reckoning."""
        row = sums_row(p, told)
        self.assertIs(type(row), tuple)
        self.assertEqual((len(row), row[-1]), (len(told) // 2 + 1, 1))
        self.assertEqual(from_sums(p, row), told)
        self.assertIs(are_bounded(p, told), are_bounded_plain(p, row), (p, told))

    def test_of_curves(self):
        for p, rows in ((3, plain.curve_rows(3, 6)), (5, plain.curve_rows(5, 3)), (7, plain.curve_rows(7))):
            for row in rows:
                told = l_plain(Curve(Poly(p, row)))
                self.check(p, told)
                self.assertIs(are_bounded(p, told), True)

    def test_near_those_of_curves(self):
        for row in plain.curve_rows(3, 2) + plain.curve_rows(3, 1, seed=9):
            told = l_plain(Curve(Poly(3, row)))
            genus = len(told) // 2
            for more in product((-2, -1, 0, 1, 2), repeat=genus):
                self.check(3, turned(3, (1,) + tuple(a + b for a, b in zip(told[1:genus + 1], more))))

    def test_genus_zero(self):
        for p in PRIMES:
            self.assertEqual((sums_row(p, (1,)), are_bounded(p, (1,))), ((1,), True))

    def test_genus_one(self):
        for p in PRIMES:
            for a in range(-15, 16):
                self.check(p, (1, a, p))
                self.assertEqual(sums_row(p, (1, a, p)), (a, 1))
                self.assertIs(are_bounded(p, (1, a, p)), a * a <= 4 * p)

    def test_genus_two(self):
        for p in (3, 5):
            for a, b in product(range(-10, 11), range(-16, 30)):
                self.check(p, turned(p, (1, a, b)))

    def test_genus_three(self):
        for a, b, c in product(range(-11, 12, 2), range(-9, 40, 3), range(-50, 51, 5)):
            self.check(3, turned(3, (1, a, b, c)))

    def test_bounds_just_met(self):
        for p in PRIMES:
            # A root whose square is 4 p, with its opposite; one more, or less, and it is too great.
            met = [-4 * p, 0, 1]
            for rows, told in (([met], True), ([met, [-1, 1]], True), ([met, [3, 1]], True), ([met, [0, 1]], True),
                               ([[-4 * p - 1, 0, 1]], False), ([[1 - 4 * p, 0, 1]], True),
                               ([[-4 * p - 1, 0, 1], [0, 1]], False), ([[1 - 4 * p, 0, 1], [2, 1]], True),
                               ([[1 - 4 * p, 0, 1], [0, 1]], True), ([[0, 1]] * 3, True), ([[0, 1]] * 2, True)):
                row = product_of(rows)
                self.assertEqual(sums_row(p, from_sums(p, row)), tuple(row))
                self.assertIs(are_bounded(p, from_sums(p, row)), told, (p, rows))
            # Double and threefold roots, and what is left of real ones just beside them.
            for r in (-2, 0, 1, 3):
                square = product_of([[-r, 1], [-r, 1]])
                beside = [square[0] + 1] + square[1:]
                for rows, told in (([square], True), ([beside], False), ([square, [-r, 1]], True), ([square, [1, 1]], True),
                                   ([beside, [-r, 1]], False), ([beside, [1, 1]], False)):
                    self.assertIs(are_bounded(p, from_sums(p, product_of(rows))), told, (p, rows))
            # Integer roots up to the greatest one whose square is below 4 p, and the next one.
            top = max(r for r in range(12) if r * r <= 4 * p)
            for first, second, third in product((-top - 1, -top, 0, top, top + 1), repeat=3):
                for some in ((first, second), (first, second, third)):
                    row = product_of([[-r, 1] for r in some])
                    self.assertIs(are_bounded(p, from_sums(p, row)), all(abs(r) <= top for r in some))

    def test_great_entries(self):
        big = 10 ** 50
        for low in ((1, big), (1, big, 0), (1, 0, big), (1, 0, -big, 3), (1, big, big, big), (1, 0, 0, -big)):
            self.check(3, turned(3, low))
            self.assertIs(are_bounded(31, turned(31, low)), False)

    def test_wrong_arguments(self):
        self.refusals(sums_row, (3, (1, 3, 7, 9, 9)), (wrong(NO_PRIMES, InvalidPrime), wrong(NO_TUPLES, InvalidPaper)))
        self.refusals(are_bounded, (3, (1, 3, 7, 9, 9)), (wrong(NO_PRIMES, InvalidPrime), []))
        for value in NO_TUPLES:
            self.assertIs(are_bounded(3, value), False, value)
            self.refused(are_bounded, (1, value), InvalidPrime)
        # For another prime it is no such tuple.
        self.refused(sums_row, (5, (1, 3, 7, 9, 9)), InvalidPaper)
        self.assertIs(are_bounded(5, (1, 3, 7, 9, 9)), False)


if __name__ == "__main__":
    unittest.main()
