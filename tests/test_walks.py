"""Sums of signs over fields, on which L rests, against going through the fields themselves."""

import unittest

from tests import plain
from tests.plain import PRIMES
from twinsheets.base import walks
from twinsheets.base.walks import orbits, sign_sums, sign_total, walked
from twinsheets.field.fields import Field
from twinsheets.poly.polys import Poly


def sizes():
    for p in PRIMES:
        degree = 1
        while p ** degree <= 3000:
            yield p, degree
            degree += 1


class WalksTest(unittest.TestCase):
    def test_rules(self):
        """Each sequence comes round only behind all members but 0."""
        self.assertEqual([(p, len(rules)) for p, rules in walks.RULES.items()],
                         [(p, max(degree for q, degree in sizes() if q == p)) for p in PRIMES])
        for p, degree in sizes():
            rule = walks.RULES[p][degree - 1]
            self.assertEqual(len(rule), degree)
            start = held = (0,) * (degree - 1) + (1,)
            steps = 0
            while steps == 0 or held != start:
                held = held[1:] + (sum(a * b for a, b in zip(rule, held)) % p,)
                steps += 1
            self.assertEqual(steps, p ** degree - 1)
            signs, powers = walked(p, degree, 12)
            self.assertEqual((len(powers), len(set(powers))), (steps, steps))
            self.assertEqual((signs[0], signs.count(1), signs.count(-1)), (0, steps // 2, steps // 2))

    def test_orbits(self):
        for p, degree in sizes():
            steps = p ** degree - 1
            found = orbits(p, steps)
            self.assertEqual(sum(size for _, size in found), steps)
            for start, size in found:
                powers = [start * p ** k % steps for k in range(size)]
                self.assertEqual((min(powers), len(set(powers)), start * p ** size % steps), (start, size, start))

    def test_totals(self):
        for p, degree in sizes():
            field = Field(p, degree)
            few = p ** degree < 300
            rows = [(), (1,), (p - 1,), (0, 1), (1, 0, 1), (2, 1, 0, 0, 1)] + plain.some_rows(p, 8 if few else 1, 12, seed=degree)
            for row in rows if few else rows[3::2]:
                told = 0
                for one in field:
                    value = field.value_of(Poly(p, row), one)
                    told += 0 if value == 0 else 1 if field.is_square(value) else -1
                self.assertEqual(sign_total(p, row, degree), told, (p, degree, row))

    def test_long_rows(self):
        for p, degree in ((3, 3), (5, 2), (31, 1)):
            field, row = Field(p, degree), plain.some_rows(p, 1, 3)[0] + (0,) * 700 + (1, 2, 1, 0, 2)
            values = [field.value_of(Poly(p, row), one) for one in field]
            told = sum(0 if value == 0 else 1 if field.is_square(value) else -1 for value in values)
            self.assertEqual(sign_total(p, row, degree), told)

    def test_sums(self):
        for p, most in ((3, 4), (5, 2), (7, 2)):
            for row in plain.some_rows(p, 5, 6, seed=3) + [(), (1,), (2,), (1, 2, 1), (0, 0, p - 1)]:
                told = [sum(plain.sign(p, row, u) for u in plain.monics(p, degree)) for degree in range(most + 1)]
                self.assertEqual(sign_sums(p, row, most), told, (p, row))


if __name__ == "__main__":
    unittest.main()
