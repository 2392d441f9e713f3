"""Signs of polynomials, and their roots modulo a polynomial."""

from twinsheets.base.numbers import MAX_INTEGER, check_count, int_power, is_power_above, residue_root
from twinsheets.base.walks import sign_sums
from twinsheets.errors import InvalidPoly, TooMany
from twinsheets.poly.division import is_row_square_free, row_joined
from twinsheets.poly.factors import factor_rows, is_row_irreducible
from twinsheets.poly.polys import Poly, check_one_prime, check_poly, poly_of
from twinsheets.poly.rows import ONE, row_at, row_monic, row_negative, row_number, row_power_rest, row_product, row_rest
from twinsheets.poly.rows import trimmed

MAX_SUMMED = 3000
MAX_ROOTS = 1000


def sign(f, u):
    """The sign of a polynomial for a monic one: 1, 0 or -1."""
    check_signed(f, u)
    return row_sign(f.prime, f.entries, u.entries)


def turned(f, u):
    """The turning: the triples by which the sign is told without any factor."""
    check_signed(f, u)
    prime = f.prime
    steps = turning(prime, f.entries, u.entries)
    return tuple([(poly_of(prime, row), poly_of(prime, modulus), told) for row, modulus, told in steps])


def sign_sum(f, degree):
    """The sum of the signs for all monic polynomials of a degree."""
    check_poly(f)
    check_count(degree, 0, MAX_INTEGER)
    if is_power_above(f.prime, degree, MAX_SUMMED):
        raise TooMany(MAX_SUMMED)
    # From its own degree on, the sums are 0 but for a residue times a square.
    if degree >= f.degree and not is_scaled_square(f.prime, f.entries):
        return 0
    return sign_sums(f.prime, f.entries, degree)[degree]


def is_square_modulo(f, u):
    """Whether f has a root modulo u."""
    return bar_modulo(f, u) is None


def roots_modulo(f, u):
    """The ascending tuple of all roots of f modulo u that have a lesser degree."""
    check_square_free(f, u)
    prime = f.prime
    found = factor_rows(prime, u.entries)
    signs = [row_sign(prime, f.entries, factor) for factor in found]
    if -1 in signs:
        return ()
    if int_power(2, signs.count(1)) > MAX_ROOTS:
        raise TooMany(MAX_ROOTS)
    joined = [()]
    product = ONE
    for factor in found:
        rests = factor_roots(prime, row_rest(prime, f.entries, factor), factor)
        joined = [row_joined(prime, row, product, rest, factor) for row in joined for rest in rests]
        product = row_product(prime, product, factor)
    ascending = sorted([(row_number(prime, row), row) for row in joined])
    return tuple([poly_of(prime, row) for _, row in ascending])


def bar_modulo(f, u):
    """The first irreducible factor of u for which f has the sign -1, or None."""
    check_square_free(f, u)
    for factor in factor_rows(f.prime, u.entries):
        if row_sign(f.prime, f.entries, factor) == -1:
            return poly_of(f.prime, factor)
    return None


def is_bar_modulo(f, u, value):
    """Whether the value is a monic irreducible factor of u for which f has the sign -1."""
    check_square_free(f, u)
    prime = f.prime
    if not isinstance(value, Poly) or value.prime != prime or not value.is_monic:
        return False
    if row_rest(prime, u.entries, value.entries) or not is_row_irreducible(prime, value.entries):
        return False
    return row_sign(prime, f.entries, value.entries) == -1


def check_signed(f, u):
    """Refuse what are no polynomial and no monic one of the same prime."""
    check_poly(f)
    check_monic(u)
    check_one_prime(f, u)


def check_square_free(f, u):
    """Refuse what are no polynomial and no monic square-free one of the same prime."""
    check_poly(f)
    check_monic(u)
    if not is_row_square_free(u.prime, u.entries):
        raise InvalidPoly("not square-free")
    check_one_prime(f, u)


def check_monic(value):
    """Refuse what is no monic polynomial."""
    check_poly(value)
    if not value.is_monic:
        raise InvalidPoly("not monic")


def turning(prime, row, modulus):
    """The triples of the turning of two rows."""
    told = 1
    steps = [(row, modulus, told)]
    rest = row_rest(prime, row, modulus)
    while rest:
        told = told * lead_sign(prime, rest[-1], modulus)
        row, modulus = modulus, row_monic(prime, rest)
        if (prime - 1) // 2 * (len(row) - 1) * (len(modulus) - 1) % 2:
            told = -told
        steps.append((row, modulus, told))
        rest = row_rest(prime, row, modulus)
    return steps


def lead_sign(prime, residue, modulus):
    """The sign of a residue other than 0 for a monic row."""
    if len(modulus) % 2 or residue_root(prime, residue) is not None:
        return 1
    return -1


def is_scaled_square(prime, row):
    """Whether a row is a residue times the square of a row."""
    if not row:
        return True
    if len(row) % 2 == 0:
        return False
    row = row_monic(prime, row)
    # The only monic row that can be the root, the greatest power first: each entry but the first is told twice.
    high, half = row[::-1], (prime + 1) // 2
    root = [1]
    for at in range(1, len(row) // 2 + 1):
        known = sum([root[back] * root[at - back] for back in range(1, at)])
        root.append((high[at] - known) * half % prime)
    told = trimmed(root[::-1])
    return row_product(prime, told, told) == row


def row_sign(prime, row, modulus):
    """The sign of a row for a monic one."""
    _, last, told = turning(prime, row, modulus)[-1]
    return told if last == ONE else 0


def factor_roots(prime, row, factor):
    """The roots of a row of lesser degree modulo an irreducible one for which it has not the sign -1."""
    if not row:
        return [row]
    root = root_modulo(prime, row, factor)
    return [root, row_negative(prime, root)]


def root_modulo(prime, row, factor):
    """A root of a row modulo an irreducible one for which it has the sign 1.

    The square of the root is the row times a rest whose order is a power of 2. Each step
    halves this order by a power of a row that is no square, until the rest is 1.
    """
    odd = int_power(prime, len(factor) - 1) - 1
    twos = 1
    while odd % 2 == 0:
        odd = odd // 2
        twos = 2 * twos
    root = row_power_rest(prime, row, (odd + 1) // 2, factor)
    rest = row_power_rest(prime, row, odd, factor)
    power = row_power_rest(prime, nonsquare_modulo(prime, factor), odd, factor)
    order = twos // 4
    while order:
        square = row_rest(prime, row_product(prime, power, power), factor)
        if row_power_rest(prime, rest, order, factor) != ONE:
            root = row_rest(prime, row_product(prime, root, power), factor)
            rest = row_rest(prime, row_product(prime, rest, square), factor)
        power = square
        order = order // 2
    return root


def nonsquare_modulo(prime, factor):
    """The first row with the sign -1 for an irreducible one."""
    number = 2
    while row_sign(prime, row_at(prime, number), factor) != -1:
        number = number + 1
    return row_at(prime, number)
