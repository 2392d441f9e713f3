"""[14.1] to [14.6]: codes."""

import unittest
from itertools import product
from unittest.mock import patch

from tests import plain
from tests import plain_spaces as far
from tests.plain import NO_OBJECTS, SIXTY, Refusals, wrong
from twinsheets.base import tables
from twinsheets.base.tables import combined
from twinsheets.coded import codes
from twinsheets.coded.codes import Code, code_points, is_turned
from twinsheets.curve.curves import Curve
from twinsheets.divisor.divisors import Divisor, place_divisor
from twinsheets.divisor.functions import Function
from twinsheets.divisor.spaces import are_alike, is_in_space, size_of, space_of
from twinsheets.errors import InvalidCode, InvalidDivisor, InvalidFunction, TooMany
from twinsheets.poly.polys import Poly

QUINT, EVEN = Curve.read(3, "x^5+2x+1"), Curve.read(3, "x^6+2x^5+x^4+1")
NONE, FIVE = Curve.read(3, "2x^6+x+1"), Curve.read(5, "x^5+x+1")
RIM, SPOT, OTHER = ("rim", 0), ((0, 1), (1,)), ((0, 1), (2,))
FOUR = Divisor(QUINT, {RIM: 4})
POINTS = tuple(place for place in QUINT.points() if place != RIM)
CODE = Code(FOUR, POINTS)
X = Function(QUINT, Poly(3, (0, 1)), Poly(3, ()), Poly(3, (1,)))
NO_CODES = NO_OBJECTS + (QUINT, FOUR, POINTS, CODE.rows, X)


def residue(curve, told):
    p = curve.prime
    return Function(curve, Poly(p, (told,) if told else ()), Poly(p, ()), Poly(p, (1,)))


def cases(primes=(3, 5), many=5, words=300):
    """Divisors with code points, on curves of every kind, whose spaces have not too many functions."""
    for p in primes:
        for row in plain.curve_rows(p):
            curve = Curve(Poly(p, row))
            for table in far.some_tables(p, row, 4 * many, 20, seed=p)[:many]:
                divisor = Divisor(curve, table)
                points = code_points(divisor)
                if points and p ** size_of(divisor) <= words:
                    yield divisor, points
                    if len(points) > 2:
                        yield divisor, points[::2]
            for many_rim in (curve.genus, 2 * curve.genus + 1):
                divisor = Divisor(curve, {curve.rims[0]: many_rim})
                points = code_points(divisor)
                if points and p ** size_of(divisor) <= words:
                    yield divisor, points


def functions(divisor):
    """All functions of a space."""
    curve = divisor.curve
    found = [residue(curve, 0)]
    for one in space_of(divisor):
        found = [total + one * residue(curve, factor) for total in found for factor in range(curve.prime)]
    return found


def words_of(divisor, points):
    return {tuple(function.value_at(place) for place in points) for function in functions(divisor)}


def weight(word):
    return sum(entry != 0 for entry in word)


class CodeTest(Refusals, unittest.TestCase):
    def test_constants(self):
        self.assertEqual((codes.MAX_LENGTH, codes.MAX_WORDS), (40, 4000))

    def test_words_and_rows(self):
        sizes, shorter = set(), 0
        for divisor, points in cases():
            p, code = divisor.curve.prime, Code(divisor, points)
            expected = words_of(divisor, points)
            self.assertEqual(len(expected), p ** code.size)
            self.assertEqual(list(code.words()), sorted(expected))
            self.assertEqual((code.limits, code.places, code.length, len(code)), (divisor, points, len(points), len(points)))
            self.assertEqual(str(code), f"code of length {len(points)} and size {code.size}")
            less = divisor
            for place in points:
                less = less - place_divisor(divisor.curve, place)
            self.assertEqual(code.size, size_of(divisor) - size_of(less))
            self.check_rows(code, expected)
            self.check_members(code, expected)
            sizes.add(code.size)
            shorter += code.size < size_of(divisor)
            if divisor.degree < len(points):
                self.assertEqual(code.size, size_of(divisor))
                self.assertTrue(all(weight(word) >= len(points) - divisor.degree for word in expected if any(word)))
                if divisor.degree > 2 * divisor.curve.genus - 2:
                    self.assertEqual(code.size, divisor.degree + 1 - divisor.curve.genus)
                    if code.size:
                        self.assertTrue(len(points) - divisor.degree <= code.least_distance() <= len(points) - code.size + 1)
        self.assertTrue({0, 1, 2, 3} <= sizes and shorter > 3)

    def check_rows(self, code, expected):
        self.assertIsInstance(code.rows, tuple)
        self.assertEqual(len(code.rows), code.size)
        heads = [next(at for at, entry in enumerate(row) if entry) for row in code.rows]
        self.assertEqual(heads, sorted(set(heads)))
        for at, row in zip(heads, code.rows):
            self.assertIn(row, expected)
            self.assertEqual([other[at] for other in code.rows], [int(other is row) for other in code.rows])

    def check_members(self, code, expected):
        p, n = code.limits.curve.prime, code.length
        if p ** n <= 3000:
            for value in product(range(p), repeat=n):
                self.assertIs(value in code, value in expected)
        for word in list(expected)[:20]:
            self.assertIs(word in code, True)
            for value in (list(word), word + (0,), word[1:], (word,), tuple(entry + p for entry in word),
                          tuple(entry - p for entry in word), tuple(bool(entry) for entry in word),
                          (None,) + word[1:], ("0",) + word[1:], (SIXTY * 100,) + word[1:]):
                self.assertIs(value in code, False)
        for value in NO_CODES:
            if not isinstance(value, tuple):
                self.assertIs(value in code, False)

    def test_words_are_made_one_by_one(self):
        steps = []

        def counted(*args):
            steps.append(args)
            return combined(*args)

        # 961 words, and a code of size 0 with one word.
        curve = Curve.read(31, "x^8+x+3")
        divisor = Divisor(curve, {curve.rims[0]: 1, curve.rims[1]: 1})
        code, least = Code(divisor, code_points(divisor)), Code(Divisor(QUINT, {RIM: -1}), POINTS)
        self.assertEqual((curve.kind, code.length, code.size, least.size), ("two", 31, 2, 0))
        with patch.object(tables, "combined", counted):
            for one, many in ((code, 961), (least, 1), (CODE, 27)):
                words, told = one.words(), []
                self.assertEqual(steps, [])
                for word in words:
                    self.assertLessEqual(len(steps), one.size)
                    steps.clear()
                    told.append(word)
                self.assertEqual((len(told), told), (many, sorted(set(told))))
                self.assertLessEqual(len(steps), one.size)
                steps.clear()
            # Two generators of one code go their own ways.
            one, other = code.words(), code.words()
            self.assertEqual([next(one), next(one), next(other), next(one), next(other)],
                             [(0,) * 31, (0,) + code.rows[1][1:], (0,) * 31, tuple(2 * entry % 31 for entry in code.rows[1]),
                              code.rows[1]])

    def test_words_of_functions(self):
        for divisor, points in cases():
            code, curve = Code(divisor, points), divisor.curve
            found = functions(divisor)
            for function in found[:60]:
                word = code.word_of(function)
                self.assertEqual(word, tuple(function.value_at(place) for place in points))
                told = code.function_of(word)
                self.assertTrue(is_in_space(divisor, told))
                self.assertEqual(tuple(told.value_at(place) for place in points), word)
            for function, other in zip(found, found[::-1]):
                total = tuple((one + two) % curve.prime for one, two in zip(code.word_of(function), code.word_of(other)))
                self.assertEqual(code.word_of(function + other), total)

    def test_least_words(self):
        for divisor, points in cases():
            code = Code(divisor, points)
            weights = [weight(word) for word in words_of(divisor, points) if any(word)]
            self.assertEqual(code.least_distance(), min(weights) if weights else None)
            if weights:
                self.assertIn(code.lightest(), code)
                self.assertEqual(weight(code.lightest()), min(weights))
            else:
                self.assertEqual((code.size, code.lightest()), (0, None))

    def test_turned(self):
        for divisor, points in cases():
            p, n, code = divisor.curve.prime, len(points), Code(divisor, points)
            rows = code.turned()
            self.assertIsInstance(rows, tuple)
            self.assertEqual(len(rows), n - code.size)
            heads = [next(at for at, entry in enumerate(row) if entry) for row in rows]
            self.assertEqual(heads, sorted(set(heads)))
            for at, row in zip(heads, rows):
                self.assertEqual([other[at] for other in rows], [int(other is row) for other in rows])
                self.assertIs(is_turned(code, row), True)
            words = words_of(divisor, points)
            if p ** n <= 800:
                expected = {value for value in product(range(p), repeat=n)
                            if all(sum(a * b for a, b in zip(value, word)) % p == 0 for word in words)}
                for value in product(range(p), repeat=n):
                    self.assertIs(is_turned(code, value), value in expected)
                self.assertEqual(len(expected), p ** (n - code.size))
                # The turned code of the turned code is the code.
                back = {value for value in product(range(p), repeat=n)
                        if all(sum(a * b for a, b in zip(value, row)) % p == 0 for row in rows)}
                self.assertEqual(back, words)

    def test_mends(self):
        mended, left, half = 0, 0, 0
        for divisor, points in cases((3, 5), 3, 130):
            p, n, code = divisor.curve.prime, len(points), Code(divisor, points)
            words = sorted(words_of(divisor, points))
            least = code.least_distance()
            if p ** n > 800:
                continue
            for value in list(product(range(p), repeat=n))[::3]:
                apart = [sum(a != b for a, b in zip(value, word)) for word in words]
                near = [word for word, many in zip(words, apart) if least is not None and 2 * many < least]
                self.assertLessEqual(len(near), 1)
                self.assertEqual(code.mend(value), near[0] if near else None)
                mended += bool(near) and value not in words
                left += not near
                half += not near and least is not None and 2 * min(apart) < n
        self.assertTrue(mended > 20 and left > 20)
        # [14.6], the fourth sentence.
        self.assertGreater(half, 0)

    def test_weights_and_zeros(self):
        # [14.3]: a word of the weight n - d is one whose function has zeros at d of the points, each of them once.
        met = 0
        for divisor, points in cases((3, 5), 3, 130):
            if 0 < divisor.degree < len(points):
                code = Code(divisor, points)
                for function in functions(divisor):
                    if not function.is_zero:
                        orders = [function.order_at(place) for place in points]
                        simple = sum(order > 0 for order in orders) == divisor.degree
                        self.assertEqual(weight(code.word_of(function)) == len(points) - divisor.degree, simple)
                        if simple:
                            met += 1
                            self.assertEqual({order for order in orders if order}, {1})
        self.assertGreater(met, 10)

    def test_code_points(self):
        for p in (3, 5, 7, 31):
            for row in plain.curve_rows(p):
                curve = Curve(Poly(p, row))
                finite = [place for place in curve.points() if place[0] != "rim"]
                self.assertEqual(code_points(Divisor(curve, {})), tuple(finite[:40]))
                if len(finite) > 2:
                    divisor = Divisor(curve, {finite[1]: 3, finite[-1]: -1, curve.rims[0]: 2})
                    expected = [place for place in finite if place not in (finite[1], finite[-1])]
                    self.assertEqual(code_points(divisor), tuple(expected[:40]))
        great = max((Curve(Poly(31, row)) for row in plain.curve_rows(31, 4)), key=len)
        finite = [place for place in great.points() if place[0] != "rim"]
        self.assertGreater(len(finite), 40)
        code = Code(Divisor(great, {great.rims[0]: 5}), code_points(Divisor(great, {})))
        self.assertEqual((len(code), code.places), (40, tuple(finite[:40])))
        self.refused(Code, (Divisor(great, {}), tuple(finite[:41])), InvalidCode)
        self.assertEqual(Code(Divisor(great, {}), tuple(finite[-40:])).rows, ((1,) * 40,))

    def test_wrong_points(self):
        some = POINTS[:3]
        for value in ((), some[::-1], some + some[-1:], some[:1] * 2, (RIM,) + some, (RIM,), list(some), some + (None,), some + (1,),
                      (((1, 0, 1), (1,)),), (((0, 1), (True,)),) + some[1:], (((0, 1), [1]),), (((0, 1), ()),), ((0, 1),),
                      (some,), {some[0]: 1}, None, 0, True, "", QUINT, FOUR, X, some[0], (((0, 1), None),), (((0, 1), (0,)),)):
            self.refused(Code, (FOUR, value), InvalidCode)
        for many in (1, -1):
            divisor = Divisor(QUINT, {RIM: 4, POINTS[1]: many})
            self.refused(Code, (divisor, some), InvalidCode)
            self.refused(Code, (divisor, POINTS[1:2]), InvalidCode)
            self.assertEqual(len(Code(divisor, POINTS[:1] + POINTS[2:])), 5)
        self.refused(Code, (Divisor(QUINT, {((1, 0, 1), (1,)): 1}), (SPOT, ((1, 0, 1), (1,)))), InvalidCode)
        ramified = Code(Divisor(FIVE, {RIM: 2}), (((3, 1), ()),))
        self.assertEqual(ramified.rows, ((1,),))
        # A point of another curve.
        self.refused(Code, (Divisor(FIVE, {}), (((0, 1), (2,)),)), InvalidCode)

    def test_size_zero(self):
        for divisor in (Divisor(QUINT, {RIM: -1}), Divisor(QUINT, {RIM: 1, ((1, 0, 1), (1,)): -1})):
            code = Code(divisor, POINTS)
            self.assertEqual((code.size, code.rows, code.length), (0, (), 6))
            self.assertEqual(list(code.words()), [(0,) * 6])
            self.assertEqual((code.least_distance(), code.lightest()), (None, None))
            self.assertEqual(code.turned(), tuple(tuple(int(at == k) for k in range(6)) for at in range(6)))
            self.assertIs((0,) * 6 in code, True)
            self.assertIs((0,) * 5 + (1,) in code, False)
            for value in ((0,) * 6, (1,) * 6):
                self.assertIsNone(code.mend(value))
                self.assertIs(is_turned(code, value), True)
            self.assertTrue(code.function_of((0,) * 6).is_zero)
            self.refused(code.function_of, ((1,) * 6,), InvalidCode)

    def test_equal(self):
        again = Code(Divisor(Curve.read(3, "x^5+2x+1"), {RIM: 4}), tuple(list(POINTS)))
        self.assertTrue(CODE == again and not CODE != again)
        for value in NO_CODES + (Code(FOUR, POINTS[1:]), Code(Divisor(QUINT, {RIM: 5}), POINTS), str(CODE)):
            self.assertIs(CODE == value, False)
            self.assertIs(CODE != value, True)
        # Codes with equal words, of other divisors.
        self.assertEqual(Code(Divisor(QUINT, {RIM: -1}), POINTS).rows, Code(Divisor(QUINT, {RIM: -2}), POINTS).rows)
        self.assertFalse(Code(Divisor(QUINT, {RIM: -1}), POINTS) == Code(Divisor(QUINT, {RIM: -2}), POINTS))
        self.assertRaises(TypeError, iter, CODE)

    def test_wrong_words(self):
        for value in NO_OBJECTS + ((0,) * 5, (0,) * 7, [0] * 6, (1, 0, 0, 0, 0, 0), (3, 3, 0, 0, 0, 0), (True, True, 0, 0, 0, 0)):
            self.refused(CODE.function_of, (value,), InvalidCode)
        for value in NO_OBJECTS + ((0,) * 5, (0,) * 7, [0] * 6, (3, 0, 0, 0, 0, 0), (-1, 0, 0, 0, 0, 0), (True, 0, 0, 0, 0, 0),
                                   (None,) * 6):
            self.refused(CODE.mend, (value,), InvalidCode)
            self.assertIs(is_turned(CODE, value), False)
        y = Function(QUINT, Poly(3, ()), Poly(3, (1,)), Poly(3, (1,)))
        for value in NO_CODES[:-1] + (y, X * X * X, residue(EVEN, 1), residue(EVEN, 0), (1, 1, 1, 1, 1, 1), CODE, residue(QUINT, 1).over(X)):
            self.refused(CODE.word_of, (value,), InvalidFunction)
        self.assertEqual(CODE.word_of(X * X), (0, 0, 1, 1, 1, 1))

    def test_wrong_arguments(self):
        bad = wrong(NO_OBJECTS + (QUINT, POINTS, X, {RIM: 4}), InvalidDivisor)
        self.refusals(Code, (FOUR, POINTS), (bad, wrong((None, (), [1], 0, True, "x"), InvalidCode)))
        self.refusals(code_points, (FOUR,), (bad,))
        for value in NO_CODES:
            for told in (None, (0,) * 6):
                self.refused(is_turned, (value, told), InvalidCode)

    def test_too_many(self):
        great = Divisor(QUINT, {RIM: 62})
        self.refused(Code, (great, POINTS), TooMany, limit=60)
        self.refused(Code, (great, ()), InvalidCode)
        self.refused(Code, (great, POINTS[::-1]), InvalidCode)
        self.assertEqual(Code(Divisor(QUINT, {RIM: 61}), POINTS).size, 6)
        # 7 ** 4 is 2401, and 7 ** 5 is 16807.
        curve = max((Curve(Poly(7, row)) for row in plain.curve_rows(7, 6) if len(row) == 6), key=len)
        points = code_points(Divisor(curve, {}))
        self.assertGreater(len(points), 6)
        for size in (4, 5):
            code = Code(Divisor(curve, {RIM: size + 1}), points)
            self.assertEqual(code.size, size)
            if size == 4:
                self.assertEqual(len(list(code.words())), 2401)
                self.assertGreater(code.least_distance(), 0)
                self.assertEqual(code.mend(code.rows[0]), code.rows[0])
            else:
                self.refused(lambda: next(code.words()), (), TooMany, limit=4000)
                for call in (code.least_distance, code.lightest):
                    self.refused(call, (), TooMany, limit=4000)
                self.refused(code.mend, (code.rows[0],), TooMany, limit=4000)
                self.refused(code.mend, (None,), InvalidCode)
                code.words()
                self.assertEqual(len(code.turned()), code.length - 5)
                self.assertIs(code.rows[0] in code, True)
                self.assertEqual(code.word_of(code.function_of(code.rows[1])), code.rows[1])

    def test_not_true(self):
        # [14.6], one after the other; the fourth stands by the mends.
        distances = [(Code(divisor, points).least_distance(), len(points) - divisor.degree) for divisor, points in cases()]
        self.assertTrue(any(told is not None and told != least for told, least in distances))
        self.assertEqual(Code(Divisor(QUINT, {RIM: 2}), POINTS).size, Code(Divisor(QUINT, {RIM: 3}), POINTS).size)
        # The divisor of x^2+1 less: the words are multiplied by its values, 1, 2 and 2.
        one, less = Divisor(QUINT, {RIM: 2}), {place: -1 for place in plain.places_over(3, QUINT.f.entries, (1, 0, 1))}
        other = Divisor(QUINT, {RIM: 6, **less})
        self.assertTrue(are_alike(one, other))
        self.assertEqual(Code(one, POINTS).rows, ((1, 1, 0, 0, 2, 2), (0, 0, 1, 1, 2, 2)))
        self.assertEqual(Code(other, POINTS).rows, ((1, 1, 0, 0, 1, 1), (0, 0, 1, 1, 2, 2)))



if __name__ == "__main__":
    unittest.main()
