"""[0.6]: where several functions are correct, one without long polynomials is told, if there is such a one."""

import unittest
from itertools import product
from unittest.mock import patch

from tests import plain
from twinsheets.base.tables import stepped, unit_lines, zero_lines
from twinsheets.coded.codes import Code, code_points
from twinsheets.curve.curves import Curve
from twinsheets.curve.places import places
from twinsheets.divisor import searches
from twinsheets.divisor.divisors import Divisor
from twinsheets.divisor.functions import function_of
from twinsheets.divisor.lattices import basis_triples, let_basis
from twinsheets.divisor.searches import Search, short_line
from twinsheets.divisor.shorts import Shorts, line_triple
from twinsheets.divisor.spaces import is_basis, is_in_space, size_of, space_of
from twinsheets.poly.polys import Poly

# Divisors with a short basis, though the shortest vectors make no such one: for the first four the
# denominators are too long, for the others the numerators, as there are poles at the rim.
GREAT = (
    (3, "x", {("rim", 0): -198, ((2, 1), (1,)): 1, ((1, 0, 1), (2, 1)): 200, ((2, 2, 0, 1), (2, 1, 1)): 200,
              ((1, 1, 1, 0, 0, 0, 1), (2, 0, 0, 2, 1)): -133}),
    (7, "x^5+2x^4+6x^3+6x^2+3x+2", {((4, 1), (4,)): -2, ((5, 1), (5,)): 1, ((2, 5, 1), (5, 4)): 200,
                                    ((3, 6, 2, 1), (1, 2, 1)): -200, ((6, 6, 3, 1), (3, 2, 2)): -131,
                                    ((2, 4, 5, 1), (6, 3, 2)): 200}),
    (11, "9x^4+10x^3+x^2+6x+1", {((6, 1), (1,)): 1, ((6, 1), (10,)): 1, ((2, 6, 1), (2, 1)): 200, ((2, 7, 1), (4, 2)): 1,
                                 ((2, 7, 1), (7, 9)): 1, ((1, 9, 6, 1), (10, 10, 7)): 200,
                                 ((4, 5, 8, 1), (7, 0, 3)): -133, ((6, 10, 10, 1), (4, 2, 1)): -200}),
    (7, "3x+4", {((6, 1), ()): 200, ((2, 5, 0, 1), (1, 5, 3)): 200, ((2, 5, 1, 1), (5, 4, 1)): 101,
                 ((2, 4, 2, 1), (4, 3, 4)): -200, ((5, 5, 4, 1), (3, 1, 6)): -165}),
    (5, "3x^4+2x^3+2", {("rim", -1): 103, ((4, 2, 1), (2, 3)): -149, ((3, 4, 1, 1), (0, 2)): 33,
                        ((3, 2, 2, 0, 1), (0, 1, 1, 3)): 200, ((4, 2, 1, 1, 1), (4, 3, 3, 2)): -200}),
    (7, "4x^4+3x^3+2x", {("rim", 2): 126, ("rim", 5): 71, ((2, 1), (1,)): -1, ((5, 1), (6,)): 2,
                         ((4, 6, 2, 1), (5, 1, 6)): -200, ((3, 4, 3, 1), (0, 4, 1)): 200, ((5, 5, 4, 1), (4, 5)): 91,
                         ((1, 2, 6, 1), (5, 5, 3)): -156}),
    (3, "x^7+2x^6+x^5+2x^4+2x^3+2x^2+2x+1", {("rim", 0): 155, ((2, 1), (1,)): 1, ((1, 0, 1), (0, 1)): -1,
                                             ((2, 1, 1), (2,)): -200, ((2, 2, 1), ()): 2,
                                             ((2, 0, 2, 2, 1, 1), (2, 0, 2, 2, 2)): 184,
                                             ((1, 2, 2, 0, 2, 1), (1, 0, 0, 1)): -134}),
)


def great_ones():
    return [Divisor(Curve.read(p, text), table) for p, text, table in GREAT]


def most(function):
    """The most entries of a polynomial of a function."""
    return max(len(part.entries) for part in (function.a, function.b, function.c))


def drawn(p, row, many, seed):
    """Some divisors with a space that is not too great, over places of every kind, the same ones each time."""
    curve, state = Curve(Poly(p, row)), seed
    spots = [spot for spot in plain.places(p, row, 3 if p == 3 else 2) if spot[0] != "rim"]
    found = []
    for _ in range(40 * many):
        table, bound = {}, 0
        for k in range(8):
            state = (state * 1103515245 + 12345) % 2 ** 31
            table[spots[state // 65536 % len(spots)]] = state // 7 % 8 - 3
            if state // 65536 % 5 == 0:
                spot = spots[state // 65536 % len(spots)]
                table[plain.opposite(p, spot)] = table[spot]
            bound = state // 65536 % 9
        for rim in curve.rims[1:]:
            table[rim] = state // 11 % 13 - 6
        divisor = Divisor(curve, table)
        rim = curve.rims[0]
        table[rim] = (bound - divisor.degree) // (2 if rim[1] == -1 else 1)
        divisor = Divisor(curve, table)
        if len(found) < many and 1 <= size_of(divisor) and p ** size_of(divisor) <= 800:
            found.append(divisor)
    return found


class Told:
    """All functions of the space of a divisor, each as a line, with the most entries of their polynomials."""

    def __init__(self, divisor):
        self.curve, self.prime = divisor.curve, divisor.curve.prime
        self.table = divisor.table
        self.let = let_basis(self.curve, self.table)
        self.triples = basis_triples(self.prime, self.let)
        self.size = len(self.triples)
        self.lines = {}
        for line in product(range(self.prime), repeat=self.size):
            self.lines[line] = most(function_of(self.curve, line_triple(self.prime, line, self.triples)))

    def shorts(self, limit):
        return Shorts(self.curve, self.table, self.let, limit)

    def limits(self):
        return range(max(1, min(self.lines.values()) - 1), max(self.lines.values()) + 1)


def cases(many, seed):
    for p in (3, 5, 7):
        for row in plain.curve_rows(p, 1, seed=seed):
            for divisor in drawn(p, row, many, seed + p):
                yield divisor


def word_of(p, line, columns):
    return tuple(sum(one * two for one, two in zip(line, column)) % p for column in columns)


class ShortTest(unittest.TestCase):
    def check_bases(self, told, met):
        p, size, units = told.prime, told.size, unit_lines(told.size)
        for limit in told.limits():
            ones = [line for line, entries in told.lines.items() if entries <= limit]
            rank = len(stepped(p, ones, size))
            part = told.shorts(limit)
            found = Search(part, units, part.degree).through(units)
            self.assertTrue(all(told.lines[line] <= limit for line in found), (told.table, limit))
            self.assertEqual(len(stepped(p, found, size)), len(found))
            self.assertEqual(len(found) == size, rank == size, (told.table, limit))
            plainly = all(told.lines[line] <= limit for line in units)
            met.append((told.curve.kind, rank == size, rank == size and not plainly))

    def test_bases_against_all_functions(self):
        met = []
        for divisor in cases(2, 1):
            self.check_bases(Told(divisor), met)
        for kind in ("one", "two", "none"):
            for told in ((False, False), (True, False), (True, True)):
                self.assertGreater(met.count((kind,) + told), 4, (kind, told))

    def test_searches_that_begin_again(self):
        # With so low a limit nearly each search is left, and begins with other parts.
        met = []
        with patch.object(searches, "FIRST_LIMIT", 1):
            for divisor in cases(1, 2):
                self.check_bases(Told(divisor), met)
        self.assertGreater(sum(hidden for _, _, hidden in met), 10)

    def test_a_search_ends(self):
        # What is found at last is short, even if too little can be tried.
        with patch.object(searches, "MAX_SPENT", 0):
            for divisor in cases(1, 3):
                told = Told(divisor)
                for limit in told.limits():
                    part, units = told.shorts(limit), unit_lines(told.size)
                    found = Search(part, units, part.degree).through(units)
                    self.assertTrue(all(told.lines[line] <= limit for line in found))

    def test_words_against_all_functions(self):
        met = []
        for divisor in cases(2, 4):
            points = code_points(divisor)[:3]
            if points:
                self.check_words(Told(divisor), points, met)
        self.assertGreater(met.count((True, True)), 20)
        self.assertGreater(met.count((True, False)), 20)
        self.assertGreater(met.count((False, False)), 20)

    def check_words(self, told, points, met):
        p = told.prime
        functions = [function_of(told.curve, triple) for triple in told.triples]
        columns = [tuple(function.value_at(point) for function in functions) for point in points]
        idle = zero_lines(p, unit_lines(told.size), columns)
        self.assertTrue(all(not any(word_of(p, line, columns)) for line in idle))
        firsts = {}
        for line in told.lines:
            firsts.setdefault(word_of(p, line, columns), line)
        self.assertEqual(len(firsts) * p ** len(idle), len(told.lines))
        for limit in told.limits():
            part = told.shorts(limit)
            few = {word_of(p, line, columns) for line, entries in told.lines.items() if entries <= limit}
            for word, line in list(firsts.items())[1::max(1, len(firsts) // 20)]:
                found = short_line(part, columns, idle, word, line)
                self.assertEqual(word_of(p, found, columns), word)
                self.assertEqual(told.lines[found] <= limit, word in few, (told.table, limit, word))
                met.append((word in few, word in few and told.lines[line] > limit))

    def test_great_bases(self):
        for divisor in great_ones():
            p = divisor.curve.prime
            triples = basis_triples(p, let_basis(divisor.curve, divisor.table))
            self.assertGreater(max(most(function_of(divisor.curve, triple)) for triple in triples), 1000)
            basis = space_of(divisor)
            self.assertEqual(len(basis), size_of(divisor))
            self.assertIs(is_basis(divisor, basis), True)
            self.assertLessEqual(max(most(function) for function in basis), 1000)
            self.assertEqual(space_of(divisor), basis)

    def test_great_words(self):
        for divisor in (great_ones()[0], great_ones()[4], great_ones()[6]):
            points = code_points(divisor)[:2]
            code = Code(divisor, points)
            words = list(code.words())
            for word in words[::max(1, len(words) // 6)]:
                function = code.function_of(word)
                self.assertIs(is_in_space(divisor, function), True)
                self.assertEqual(code.word_of(function), word)
                self.assertLessEqual(most(function), 1000)
            self.assertEqual(code.function_of(words[-1]), code.function_of(words[-1]))

    def test_none_is_short(self):
        # The denominators have the degree 1200, and functions have just one zero that is not asked for.
        curve = Curve.read(3, "x")
        fifth = next(places(curve, 5))
        divisor = Divisor(curve, {((1, 0, 1), (2, 1)): 15, ((1, 1, 1, 0, 0, 0, 1), (2, 0, 0, 2, 1)): 195,
                                  ((2, 2, 0, 1), (2, 1, 1)): -200, fifth: -80, ("rim", 0): -199})
        self.assertEqual((divisor.degree, size_of(divisor)), (1, 2))
        basis = space_of(divisor)
        self.assertIs(is_basis(divisor, basis), True)
        self.assertGreater(min(most(function) for function in basis), 1000)
        code = Code(divisor, code_points(divisor))
        for word in code.words():
            self.assertEqual(code.word_of(code.function_of(word)), word)


if __name__ == "__main__":
    unittest.main()
