"""A plain reckoning with polynomials, on its own, and what the tests share.

A polynomial is a tuple of entries here, the last one not 0.
"""

from itertools import combinations, product

from twinsheets.errors import InvalidOperation
from twinsheets.poly.polys import Poly

PRIMES = (3, 5, 7, 11, 13, 17, 19, 23, 29, 31)
SIXTY = 10 ** 60 - 1
SIXTY_ONE = 10 ** 60

# Values of all kinds that are no integers, and integers that are too long.
NO_INTEGERS = (True, False, None, "", "1", "x", (), (1,), ((1, 2), 3), [], [1], {}, {1: 2}, SIXTY_ONE, -SIXTY_ONE,
               10 ** 99, Poly(3, (1,)), Poly(3, ()), InvalidOperation("x"))
# Values of all kinds that are no polynomials.
NO_POLYS = (True, False, None, "", "x+1", 0, 1, 7, -1, SIXTY, SIXTY_ONE, (), (0, 1), (3, (0, 1)), [], [0, 1], {},
            {0: 1}, InvalidOperation("x"))
# Values of all kinds that are no objects of the package but errors and polynomials.
NO_OBJECTS = NO_POLYS + (Poly(3, (1,)), Poly(3, (0, 1)), Poly(5, (1, 1)))
NO_PRIMES = (0, 1, 2, 4, 9, 37, -3, 33) + NO_INTEGERS


def strip(entries):
    entries = list(entries)
    while entries and entries[-1] == 0:
        entries.pop()
    return tuple(entries)


def add(p, one, other):
    size = max(len(one), len(other))
    one, other = one + (0,) * (size - len(one)), other + (0,) * (size - len(other))
    return strip((a + b) % p for a, b in zip(one, other))


def scale(p, one, residue):
    return strip(a * residue % p for a in one)


def less(p, one, other):
    return add(p, one, scale(p, other, p - 1))


def times(p, one, other):
    found = {}
    for i, a in enumerate(one):
        for j, b in enumerate(other):
            found[i + j] = (found.get(i + j, 0) + a * b) % p
    return strip(found.get(k, 0) for k in range(len(one) + len(other)))


def inverse(p, residue):
    return next(c for c in range(1, p) if c * residue % p == 1)


def split(p, one, other):
    """Quotient and remainder, one term after the other."""
    quotient = ()
    while len(one) >= len(other):
        factor = one[-1] * inverse(p, other[-1]) % p
        term = (0,) * (len(one) - len(other)) + (factor,)
        quotient = add(p, quotient, term)
        one = less(p, one, times(p, term, other))
    return quotient, one


def rest(p, one, other):
    return split(p, one, other)[1]


def value(p, one, at):
    return sum(a * at ** i for i, a in enumerate(one)) % p


def power(p, one, exponent):
    found = (1,)
    for _ in range(exponent):
        found = times(p, found, one)
    return found


def number(p, one):
    return sum(a * p ** i for i, a in enumerate(one))


def at(p, told):
    entries = []
    while told:
        told, entry = divmod(told, p)
        entries.append(entry)
    return tuple(entries)


def monics(p, degree):
    """All monic polynomials of a degree, ascending."""
    return [tuple(reversed(low)) + (1,) for low in product(range(p), repeat=degree)]


def below(p, degree):
    """All polynomials of a lesser degree, zero among them, ascending."""
    return [strip(reversed(low)) for low in product(range(p), repeat=degree)]


def divisors(p, one):
    """All monic divisors of a polynomial other than zero, by trying all."""
    return [two for degree in range(len(one)) for two in monics(p, degree) if not rest(p, one, two)]


def is_irreducible(p, one):
    """By trying all monic polynomials of degree 1 to the half of its own."""
    if len(one) < 2:
        return False
    return all(rest(p, one, two) for degree in range(1, (len(one) - 1) // 2 + 1) for two in monics(p, degree))


def factors(p, one):
    """The list of monic irreducible factors, ascending, each as often as it divides."""
    found = []
    one = scale(p, one, inverse(p, one[-1]))
    degree = 1
    while len(one) > 2 * degree:
        for two in monics(p, degree):
            while not rest(p, one, two):
                found.append(two)
                one = split(p, one, two)[0]
        degree += 1
    if len(one) > 1:
        found.append(one)
    return sorted(found, key=lambda row: number(p, row))


def parts_of(p, one):
    """The different irreducible factors of degree 1 to 3, and behind them what is left, if anything is."""
    found = []
    for degree in (1, 2, 3) if p < 5 else (1, 2) if p < 13 else (1,):
        for two in monics(p, degree):
            if not rest(p, one, two) and is_irreducible(p, two):
                found.append(two)
                while not rest(p, one, two):
                    one = split(p, one, two)[0]
    return found + [scale(p, one, inverse(p, one[-1]))] if len(one) > 1 else found


def sign_at(p, f, factor):
    """The sign for an irreducible polynomial, by trying all squares."""
    f = rest(p, f, factor)
    if not f:
        return 0
    return 1 if any(rest(p, times(p, w, w), factor) == f for w in below(p, len(factor) - 1)) else -1


def sign(p, f, u):
    told = 1
    for factor in factors(p, u):
        told *= sign_at(p, f, factor)
    return told


def derivative(p, one):
    return strip([i * a % p for i, a in enumerate(one)][1:])


def common(p, one, other):
    while other:
        one, other = other, rest(p, one, other)
    return scale(p, one, inverse(p, one[-1])) if one else ()


def is_square_free(p, one):
    return common(p, one, derivative(p, one)) == (1,)


def kind(p, f):
    if len(f) % 2 == 0:
        return "one"
    return "two" if any(w * w % p == f[-1] for w in range(p)) else "none"


def genus(f):
    return (len(f) - 2) // 2


def curve_rows(p, many=1, seed=1):
    """For each degree from 1 to 8, and each kind that it can have, so many square-free polynomials."""
    found = []
    for degree in range(1, 9):
        for told in (("one",) if degree % 2 else ("two", "none")):
            rows, state = [], seed
            while len(rows) < many:
                state += 1
                row = next(row for row in some_rows(p, 400, 9, state) if len(row) == degree + 1)
                if kind(p, row) == told and is_square_free(p, row) and row not in rows:
                    rows.append(row)
            found.extend(rows)
    return found


def all_curve_rows(p, degree):
    """All square-free polynomials of a degree."""
    return [scale(p, row, lead) for lead in range(1, p) for row in monics(p, degree) if is_square_free(p, row)]


def rims(p, f):
    if kind(p, f) == "one":
        return [("rim", 0)]
    return [("rim", s) for s in range(p) if s * s % p == f[-1]] or [("rim", -1)]


def places_over(p, f, u):
    """The places with an irreducible polynomial, by trying all of lesser degree."""
    found = [(u, v) for v in below(p, len(u) - 1) if not rest(p, less(p, f, times(p, v, v)), u)]
    return found or [(u, None)]


def degree_of(place):
    if place[0] == "rim":
        return 2 if place[1] == -1 else 1
    return (len(place[0]) - 1) * (2 if place[1] is None else 1)


def places(p, f, top):
    """All places whose u has a degree up to this one, and those at the rim, ascending."""
    found = rims(p, f)
    for degree in range(1, top + 1):
        for u in monics(p, degree):
            if is_irreducible(p, u):
                found.extend(places_over(p, f, u))
    return found


def opposite(p, place):
    first, second = place
    if first == "rim":
        return (first, p - second) if second > 0 else place
    return place if second is None else (first, scale(p, second, p - 1))


def polys(p, rows):
    return [Poly(p, row) for row in rows]


def some_rows(p, many, size, seed=1):
    """Some rows of up to so many entries, always the same ones."""
    state, found = seed, []
    for _ in range(many):
        row = []
        state = (state * 1103515245 + 12345) % 2 ** 31
        for _ in range(state // 65536 % size + 1):
            state = (state * 1103515245 + 12345) % 2 ** 31
            row.append(state // 65536 % p)
        found.append(strip(row))
    return found


class Refusals:
    """What a test case needs to ask for errors."""

    def refused(self, call, args, error, **kept):
        """The call raises just this error, which keeps the very values."""
        with self.assertRaises(error) as caught:
            call(*args)
        self.assertIs(type(caught.exception), error)
        for name, told in kept.items():
            held = getattr(caught.exception, name)
            self.assertTrue(held is told or (type(held) is type(told) and held == told), (held, told))

    def refusals(self, call, good, bad):
        """Each wrong argument is refused, and of two the first one.

        `bad` has for each parameter its wrong values, with the error, and the name under which
        the error keeps the value, if it does.
        """
        for first, wrong in enumerate(bad):
            for told, error, name in wrong:
                args = good[:first] + (told,) + good[first + 1:]
                kept = {name: told} if name else {}
                with self.subTest(args=args):
                    self.refused(call, args, error, **kept)
        for (first, ones), (second, others) in combinations(list(enumerate(bad)), 2):
            for (told, error, name), (other, _, _) in product(ones[:12], others[:12]):
                args = list(good)
                args[first], args[second] = told, other
                kept = {name: told} if name else {}
                with self.subTest(args=args):
                    self.refused(call, args, error, **kept)


def wrong(values, error, name=None):
    return [(told, error, name) for told in values]
