"""[0.18], [7.1] to [7.5]: changes, and where they lead curves and places."""

import unittest
from fractions import Fraction
from itertools import islice, product

from tests import plain
from tests.plain import NO_INTEGERS, NO_OBJECTS, NO_PRIMES, PRIMES, SIXTY, Refusals, wrong
from twinsheets.curve import changes
from twinsheets.curve.changes import Change, between, changed, count_changes, each_change, is_change, led, own_changes
from twinsheets.curve.changes import plain_change
from twinsheets.curve.curves import Curve
from twinsheets.curve.places import opposite
from twinsheets.errors import InvalidChange, InvalidCount, InvalidCurve, InvalidOperation, InvalidPlace, InvalidPrime
from twinsheets.errors import TooMany
from twinsheets.field.fields import points_walked
from twinsheets.poly.polys import Poly

QUINT, EVEN = Curve.read(3, "x^5+2x+1"), Curve.read(3, "x^6+2x^5+x^4+1")
SEPT, FIVE = Curve.read(3, "x^7+x+1"), Curve.read(5, "x^5+x+1")
TURN = Change(3, 2, (0, 1, 1, 0), 1)
NO_CURVES = NO_OBJECTS + (TURN, QUINT.points(), "y^2 = x over 3")
NO_CHANGES = NO_OBJECTS + (QUINT, ((0, 1, 1, 0), 1), (3, 2, (0, 1, 1, 0), 1), "0 1 1 0, 1")
NO_TABLES = NO_OBJECTS + ((0, 0, 0, 0), (1, 0, 0, 0), (1, 1, 2, 2), (1, 2, 2, 1), (1, 0, 0), (1, 0, 0, 1, 0), [1, 0, 0, 1],
                          (3, 1, 1, 0), (-1, 0, 0, 1), (True, 0, 0, 1), (1, False, 0, 1), ((1, 0), (0, 1)), "1001",
                          (1, 0, 0, None), (SIXTY + 1, 0, 0, 1), (1, "0", 0, 1))
NO_GENERA = (-1, 4, 5, SIXTY) + NO_INTEGERS


def tables(p):
    return [table for table in product(range(p), repeat=4) if (table[0] * table[3] - table[1] * table[2]) % p]


def normal(p, genus, table, scale):
    """The normal form: the first entry that is not 0 becomes 1."""
    lead = next(entry for entry in table if entry)
    t = plain.inverse(p, lead)
    divided = scale * plain.inverse(p, pow(t, genus + 1, p)) % p
    return tuple(entry * t % p for entry in table), divided


def led_plain(p, f, table, scale):
    """F, multiplied out term by term."""
    a, b, c, d = table
    size = 2 * plain.genus(f) + 2
    total = ()
    for i, entry in enumerate(f):
        top = plain.power(p, plain.strip((b, a)), i)
        bottom = plain.power(p, plain.strip((d, c)), size - i)
        total = plain.add(p, total, plain.scale(p, plain.times(p, top, bottom), entry * scale * scale))
    return total


def led_place(p, genus, table, scale, place):
    a, b, c, d = table
    if place[0] == "rim":
        x, z, y = 1, 0, place[1]
    else:
        x, z, y = -place[0][0], 1, (place[1] or (0,))[0]
    left, right = (d * x - b * z) % p, (a * z - c * x) % p
    high = scale * pow(a * d - b * c, genus + 1, p) * y
    if right == 0:
        return "rim", high * pow(plain.inverse(p, left), genus + 1, p) % p
    u = plain.inverse(p, right)
    y = high * pow(u, genus + 1, p) % p
    return (-left * u % p, 1), ((y,) if y else ())


def some_changes(p, genus, step):
    return [Change(p, genus, table, scale) for table in tables(p) for scale in range(1, p)][::step]


def small_curves():
    """Curves of each genus from 0 to 3 over small primes, with how many changes are left out."""
    for p, step in ((3, 1), (5, 23), (7, 307)):
        for row in plain.curve_rows(p):
            yield Curve(Poly(p, row)), step


class ChangeTest(Refusals, unittest.TestCase):
    def test_constant(self):
        self.assertEqual(changes.MAX_WALKED, 13)

    def test_normal_forms(self):
        for p, step in ((3, 1), (5, 7), (7, 61), (31, 60001)):
            for genus in range(4):
                for table, scale in list(product(tables(p) if p < 31 else [(0, 3, 7, 30), (30, 1, 0, 2)],
                                                 range(1, p)))[::step if p < 31 else 1]:
                    change = Change(p, genus, table, scale)
                    told, held = normal(p, genus, table, scale)
                    self.assertEqual((change.prime, change.genus, change.table, change.scale), (p, genus, told, held))
                    self.assertEqual(str(change), "{} {} {} {}, {}".format(*told, held))
                    for t in range(1, p):
                        other = tuple(t * entry % p for entry in table)
                        inverse = plain.inverse(p, pow(t, genus + 1, p))
                        self.assertEqual(Change(p, genus, other, scale * inverse % p), change)

    def test_all_changes(self):
        for p in (3, 5, 7):
            for genus in range(4):
                told = sorted({normal(p, genus, table, scale) for table in tables(p)[::1 if p < 7 else 2]
                               for scale in range(1, p)}) if p < 7 else None
                found = [(change.table, change.scale) for change in each_change(p, genus)]
                self.assertEqual(len(found), count_changes(p))
                self.assertEqual(found, sorted(set(found)))
                if told is not None:
                    self.assertEqual(found, told)
                self.assertTrue(all(normal(p, genus, *one) == one for one in found))
        for p in PRIMES:
            self.assertEqual(count_changes(p), p * (p * p - 1) * (p - 1))
            self.assertEqual([(one.table, one.scale) for one in islice(each_change(p, 3), 2)],
                             [((0, 1, 1, 0), 1), ((0, 1, 1, 0), 2)])
        last = list(each_change(13, 1))[-1]
        self.assertEqual((last.table, last.scale), ((1, 12, 12, 12), 12))

    def test_equal(self):
        for p, genus in ((3, 0), (3, 1), (5, 1)):
            some = some_changes(p, genus, 1 if p == 3 else 11)
            forms = [normal(p, genus, one.table, one.scale) for one in some]
            for one, form in zip(some, forms):
                for other, told in zip(some, forms):
                    self.assertIs(one == other, form == told)
                    self.assertIs(one != other, form != told)
        for value in NO_CHANGES + (Change(3, 1, (0, 1, 1, 0), 1), Change(5, 2, (0, 1, 1, 0), 1), plain_change(3, 2)):
            self.assertIs(TURN == value, False)
            self.assertIs(TURN != value, True)

    def test_plain_change(self):
        for p in PRIMES:
            for genus in range(4):
                change = plain_change(p, genus)
                self.assertEqual((change.table, change.scale, change.genus), ((1, 0, 0, 1), 1, genus))
        for curve, _ in small_curves():
            self.assertEqual(changed(curve, plain_change(curve.prime, curve.genus)), curve)

    def test_then_and_inverse(self):
        for curve, step in small_curves():
            p, genus = curve.prime, curve.genus
            some = some_changes(p, genus, max(step, 5))
            for one in some:
                self.assertEqual(one.then(one.inverse()), plain_change(p, genus))
                self.assertEqual(one.inverse().then(one), plain_change(p, genus))
                self.assertEqual(changed(changed(curve, one), one.inverse()), curve)
                for other in some[::5]:
                    both = one.then(other)
                    self.assertEqual(changed(changed(curve, one), other), changed(curve, both))
                    for place in curve.points()[::2]:
                        self.assertEqual(led(changed(curve, one), other, led(curve, one, place)),
                                         led(curve, both, place))

    def test_table_of_then(self):
        for p, genus in ((5, 2), (31, 3)):
            # Both tables are normal forms, and this is their product.
            told = tuple(entry % p for entry in (6, 5, 12, 11))
            both = Change(p, genus, (1, 2, 3, 4), 2).then(Change(p, genus, (0, 1, 3, 2), 3))
            self.assertEqual((both.table, both.scale), normal(p, genus, told, 6 % p))

    def test_wrong_arguments(self):
        primes, genera = wrong(NO_PRIMES, InvalidPrime), wrong(NO_GENERA, InvalidCount, "value")
        scales = wrong((0, 3, -1, SIXTY) + NO_INTEGERS, InvalidChange)
        self.refusals(Change, (3, 2, (0, 1, 1, 0), 1), (primes, genera, wrong(NO_TABLES, InvalidChange), scales))
        self.refusals(plain_change, (3, 2), (primes, genera))
        self.refusals(lambda *args: next(each_change(*args)), (3, 2), (primes, genera))
        self.refusals(count_changes, (3,), (primes,))
        self.refusals(TURN.then, (TURN,), (wrong(NO_CHANGES, InvalidChange),))
        for other in (Change(3, 1, (0, 1, 1, 0), 1), Change(5, 2, (0, 1, 1, 0), 1)):
            self.refused(TURN.then, (other,), InvalidOperation)
        # The generator is made without an error.
        each_change(4, None)


class LeadingTest(Refusals, unittest.TestCase):
    def test_curves(self):
        for curve, step in small_curves():
            p = curve.prime
            for change in some_changes(p, curve.genus, step):
                told = led_plain(p, curve.f.entries, change.table, change.scale)
                found = changed(curve, change)
                self.assertEqual(found.f.entries, told)
                self.assertEqual((found.genus, found.prime), (curve.genus, p))
                self.assertIn(found.f.degree, (2 * curve.genus + 1, 2 * curve.genus + 2))

    def test_tables_that_are_no_normal_forms(self):
        for p, row in ((5, FIVE.f.entries), (7, (1, 1, 0, 1)), (7, (3, 1, 0, 1, 0, 0, 0, 2)), (5, (1, 3))):
            curve = Curve(Poly(p, row))
            for table in tables(p)[::17]:
                for scale in range(1, p):
                    change = Change(p, curve.genus, table, scale)
                    self.assertEqual(changed(curve, change).f.entries, led_plain(p, row, table, scale))
                    for place in curve:
                        self.assertEqual(led(curve, change, place), led_place(p, curve.genus, table, scale, place))

    def test_great_primes(self):
        for p in (13, 31):
            for row in plain.curve_rows(p):
                curve = Curve(Poly(p, row))
                for table, scale in (((2, 5, 7, 1), 4), ((0, 3, 5, 0), 11), ((0, 3, 5, 9), 1), ((4, 1, 0, 6), 12)):
                    change = Change(p, curve.genus, table, scale)
                    found = changed(curve, change)
                    self.assertEqual(found.f.entries, led_plain(p, row, table, scale))
                    ends = [led(curve, change, place) for place in curve]
                    self.assertEqual(ends, [led_place(p, curve.genus, table, scale, place) for place in curve])
                    self.assertEqual(sorted(map(repr, ends)), sorted(map(repr, found)))
                    self.assertEqual(between(curve, found) is not None, True) if p == 13 else None

    def test_places(self):
        for curve, step in small_curves():
            for change in some_changes(curve.prime, curve.genus, step):
                found = changed(curve, change)
                ends = [led(curve, change, place) for place in curve]
                self.assertTrue(all(place in found for place in ends))
                self.assertEqual(len(set(ends)), len(found))
                for place, end in zip(curve, ends):
                    self.assertEqual(end, led_place(curve.prime, curve.genus, change.table, change.scale, place))
                    self.assertEqual(led(found, change.inverse(), end), place)
                    self.assertEqual(led(curve, change, opposite(curve, place)), opposite(found, end))

    def test_points_over_greater_fields(self):
        for curve in (QUINT, SEPT, FIVE, Curve.read(3, "x^2+1"), Curve.read(3, "2x^4+x+1")):
            for change in some_changes(curve.prime, curve.genus, 13 if curve.prime == 3 else 311):
                for k in (1, 2, 3):
                    self.assertEqual(points_walked(changed(curve, change).f, k), points_walked(curve.f, k))

    def test_wrong_arguments(self):
        bad = wrong(NO_CURVES, InvalidCurve)
        no_changes = wrong(NO_CHANGES, InvalidChange)
        self.refusals(changed, (QUINT, TURN), (bad, no_changes))
        no_places = (("rim", 1), ("rim", False), ((1, 0, 1), (1,)), ((0, 1), ()), ((0, 1), (True,)), ((0, 1), [1]),
                     ((1, 2, 0, 0, 0, 1), ())) + NO_OBJECTS
        self.refusals(led, (QUINT, TURN, ("rim", 0)), (bad, no_changes, wrong(no_places, InvalidPlace)))
        for other in (Change(3, 1, (0, 1, 1, 0), 1), Change(5, 2, (0, 1, 1, 0), 1)):
            self.refused(changed, (QUINT, other), InvalidOperation)
            self.refused(led, (QUINT, other, ("rim", 0)), InvalidOperation)
            self.refused(led, (QUINT, other, ("rim", 1)), InvalidPlace)
            self.refused(led, (None, other, ("rim", 1)), InvalidCurve)
        self.refused(led, (Curve.read(3, "2x^6+x+1"), TURN, ("rim", -1)), InvalidPlace)


class BetweenTest(Refusals, unittest.TestCase):
    def test_own_changes(self):
        curves = [curve for curve, _ in small_curves()]
        curves += [Curve.read(3, text) for text in ("x^8+2", "x^8+x", "x^7+2x", "x^6+1", "x^4+2", "x^3+2x", "x^2+2", "x")
                   if plain.is_square_free(3, Poly.read(3, text).entries)]
        curves += [Curve.read(5, "x^5+4x"), Curve.read(5, "x^6+1"), Curve.read(7, "x^8+6"), Curve.read(7, "x^7+6x")]
        for curve in curves:
            every = list(each_change(curve.prime, curve.genus))
            told = [one for one in every if changed(curve, one) == curve]
            found = own_changes(curve)
            self.assertIs(type(found), tuple)
            self.assertEqual(list(found), told, curve.f)
            self.assertEqual(len(every) % len(told), 0)

    def test_a_group(self):
        for p, text in ((3, "x^6+x^4+x^2+1"), (11, "x^6+1"), (13, "x^8+1"), (13, "x^5+x"), (13, "x"), (11, "2x^2+1")):
            curve = Curve.read(p, text) if p != 3 else Curve.read(3, "x^4+1")
            own = own_changes(curve)
            self.assertTrue(all(changed(curve, one) == curve for one in own))
            for one in own:
                self.assertIn(one.inverse(), own)
                for other in own[::3]:
                    self.assertIn(one.then(other), own)
            self.assertEqual([(one.table, one.scale) for one in own], sorted((one.table, one.scale) for one in own))

    def test_orbits_over_three(self):
        for genus in range(3):
            degrees = (2 * genus + 1, 2 * genus + 2)
            left = {row for degree in degrees for row in plain.all_curve_rows(3, degree)}
            every, many, heads = list(each_change(3, genus)), Fraction(0), []
            self.assertEqual(len(left), 18 if genus == 0 else 2 * (3 ** (2 * genus + 2) - 3 ** (2 * genus)))
            while left:
                head = Curve(Poly(3, min(left)))
                orbit = {changed(head, one).f.entries for one in every}
                own = own_changes(head)
                self.assertEqual(len(orbit) * len(own), count_changes(3))
                self.assertEqual(orbit - left, set())
                for row in sorted(orbit)[::3]:
                    change = between(head, Curve(Poly(3, row)))
                    self.assertEqual(changed(head, change).f.entries, row)
                for other in heads:
                    self.assertIsNone(between(head, other))
                heads.append(head)
                many += Fraction(1, len(own))
                left -= orbit
            self.assertEqual(many, Fraction(3, 8) if genus == 0 else 3 ** (2 * genus - 1))

    def test_between_against_all_changes(self):
        for p, text in ((3, "x^7+x+1"), (3, "2x^8+x+1"), (5, "x^5+x+1"), (5, "x^3+x"), (7, "x^2+1"), (7, "x^6+x+1")):
            curve = Curve.read(p, text)
            every = list(each_change(p, curve.genus))
            ends = {}
            for one in every:
                ends.setdefault(changed(curve, one).f.entries, []).append(one)
            for row in list(ends)[::max(1, len(ends) // 40)]:
                other = Curve(Poly(p, row))
                self.assertIn(between(curve, other), ends[row])
                for one in every[::29] + ends[row]:
                    self.assertIs(is_change(curve, other, one), one in ends[row])
            for row in plain.curve_rows(p, 2, seed=5):
                other = Curve(Poly(p, row))
                if row not in ends:
                    self.assertIsNone(between(curve, other))
                    self.assertFalse(any(is_change(curve, other, one) for one in every[::17]))

    def test_unlike_ones(self):
        for one in (QUINT, SEPT, FIVE, Curve.read(3, "x"), Curve.read(31, "x^3+x")):
            for other in (SEPT, FIVE, Curve.read(3, "x"), Curve.read(31, "x^5+x+1"), Curve.read(5, "x")):
                if (one.prime, one.genus) != (other.prime, other.genus):
                    if one.prime <= 13:
                        self.assertIsNone(between(one, other))
                    for change in (TURN, plain_change(5, 2), plain_change(3, 3), plain_change(31, 1)):
                        self.assertIs(is_change(one, other, change), False)

    def test_equal_entries_of_unlike_primes(self):
        for text in ("x", "x^2+1", "x^3+2x+1", "x^5+2x+1", "x^7+x+1"):
            one, other = Curve.read(3, text), Curve.read(7, text)
            self.assertIsNone(between(one, other))
            self.assertIsNone(between(other, one))
            for change in (plain_change(3, one.genus), plain_change(7, one.genus)):
                self.assertIs(is_change(one, other, change), False)
                self.assertIs(is_change(other, one, change), False)

    def test_values_of_every_kind(self):
        for value in NO_CHANGES + (None, plain_change(3, 1), plain_change(5, 2)):
            self.assertIs(is_change(QUINT, QUINT, value), False)
        self.assertIs(is_change(QUINT, QUINT, plain_change(3, 2)), True)
        big = Curve.read(31, "x^5+x+1")
        self.assertIs(is_change(big, big, plain_change(31, 2)), True)
        self.assertIs(is_change(big, big, Change(31, 2, (1, 0, 0, 1), 30)), True)
        self.assertIs(is_change(big, big, Change(31, 2, (1, 1, 0, 1), 1)), False)

    def test_turned_about(self):
        for p in PRIMES:
            for row in plain.curve_rows(p):
                curve = Curve(Poly(p, row))
                change = Change(p, curve.genus, (1, 0, 0, 1), p - 1)
                self.assertEqual(changed(curve, change), curve)
                self.assertIs(is_change(curve, curve, change), True)
                for place in curve:
                    self.assertEqual(led(curve, change, place), opposite(curve, place))
                if p <= 13:
                    self.assertIn(change, own_changes(curve))

    def test_not_true(self):
        # Each own change leads the rim to the rim.
        curve = Curve.read(3, "x^3+2x")
        moved = [one for one in own_changes(curve) if led(curve, one, ("rim", 0)) != ("rim", 0)]
        self.assertTrue(moved)
        # Curves of one kind are led to one another by changes with c = 0, if by any.
        one = Curve.read(3, "x^5+x^2+2x")
        ends = {}
        for change in each_change(3, 2):
            ends.setdefault(changed(one, change).f.entries, []).append(change)
        found = [ways for row, ways in ends.items() if plain.kind(3, row) == "one" and all(way.table[2] for way in ways)]
        self.assertTrue(found)
        # Curves with equally many points over the fields with p and with p * p members are led to one another.
        rows = plain.all_curve_rows(3, 5)
        told = {}
        for row in rows:
            curve = Curve(Poly(3, row))
            told.setdefault((points_walked(curve.f, 1), points_walked(curve.f, 2)), []).append(curve)
        self.assertTrue(any(between(some[0], one) is None for some in told.values() for one in some))

    def test_wrong_arguments(self):
        bad = wrong(NO_CURVES, InvalidCurve)
        self.refusals(between, (QUINT, EVEN), (bad, bad))
        self.refusals(is_change, (QUINT, EVEN, None), (bad, bad, []))
        self.refusals(own_changes, (QUINT,), (bad,))
        for p in PRIMES:
            curve = Curve(Poly(p, (1, 1, 0, 1)) if p not in (3, 31) else Poly(p, (1, 2, 0, 1)))
            if p > 13:
                self.refused(own_changes, (curve,), TooMany, limit=13)
                for other in (curve, QUINT, FIVE):
                    self.refused(between, (curve, other), TooMany, limit=13)
                self.assertIsNone(between(QUINT, curve))
                for value in (None, 1, ()):
                    self.refused(between, (curve, value), InvalidCurve)
            else:
                self.assertIn(plain_change(p, 1), own_changes(curve))
                self.assertIs(is_change(curve, curve, between(curve, curve)), True)


if __name__ == "__main__":
    unittest.main()
