"""Common divisors, powers and inverses modulo a polynomial, and rests that are joined."""

from twinsheets.base.numbers import MAX_INTEGER, check_count
from twinsheets.errors import InvalidOperation, InvalidPoly
from twinsheets.poly.polys import Poly, check_one_prime, check_poly, poly_of
from twinsheets.poly.rows import ONE, row_cofactors, row_common, row_derivative, row_difference, row_power_rest
from twinsheets.poly.rows import row_product, row_rest, row_sum


def common(one, other):
    """The greatest common divisor."""
    check_two(one, other)
    return poly_of(one.prime, row_common(one.prime, one.entries, other.entries))


def cofactors(one, other):
    """A tuple (c, s, t) with c the greatest common divisor, which is s * one + t * other."""
    check_two(one, other)
    return tuple([poly_of(one.prime, row) for row in row_cofactors(one.prime, one.entries, other.entries)])


def are_cofactors(one, other, value):
    """Whether the value is such a tuple."""
    divisor = common(one, other)
    if not isinstance(value, tuple) or len(value) != 3:
        return False
    if not all([isinstance(part, Poly) and part.prime == one.prime for part in value]):
        return False
    told, first, second = value
    return told == divisor and first * one + second * other == divisor


def power_modulo(base, exponent, modulus):
    """The remainder of a power."""
    check_two(base, modulus)
    check_count(exponent, 0, MAX_INTEGER)
    if modulus.is_zero:
        raise InvalidOperation("zero leaves no remainders")
    return poly_of(base.prime, row_power_rest(base.prime, base.entries, exponent, modulus.entries))


def inverse_modulo(poly, modulus):
    """The polynomial of lesser degree than the modulus whose product has the remainder 1, or None."""
    check_two(poly, modulus)
    check_modulus(modulus)
    inverse = row_inverse(poly.prime, poly.entries, modulus.entries)
    return None if inverse is None else poly_of(poly.prime, inverse)


def joined_rests(rows):
    """The polynomial of the least degree with these pairs of rests and moduli."""
    check_rests(rows)
    start, _ = rows[0]
    joined, product = (), ONE
    for rest, modulus in rows:
        check_one_prime(start, rest)
        check_one_prime(start, modulus)
        check_modulus(modulus)
        joined = row_joined(start.prime, joined, product, rest.entries, modulus.entries)
        if joined is None:
            raise InvalidOperation("two moduli are not coprime")
        product = row_product(start.prime, product, modulus.entries)
    return poly_of(start.prime, joined)


def is_square_free(poly):
    """Whether no square of a polynomial that is not constant divides the polynomial."""
    check_poly(poly)
    if poly.is_zero:
        raise InvalidOperation("every square divides zero")
    return is_row_square_free(poly.prime, poly.entries)


def is_row_square_free(prime, row):
    """Whether a row, other than zero, has no factor in common with its derivative."""
    return row_common(prime, row, row_derivative(prime, row)) == ONE


def row_inverse(prime, row, modulus):
    """The row whose product with a row has the remainder 1, or None."""
    divisor, inverse, _ = row_cofactors(prime, row, modulus)
    return row_rest(prime, inverse, modulus) if divisor == ONE else None


def row_joined(prime, row, product, rest, modulus):
    """The row with its old rest by a product and a further one by a coprime modulus, or None if it is not coprime."""
    inverse = row_inverse(prime, product, modulus)
    if inverse is None:
        return None
    missing = row_product(prime, row_difference(prime, rest, row), inverse)
    return row_sum(prime, row, row_product(prime, product, row_rest(prime, missing, modulus)))


def check_two(one, other):
    """Refuse what are not two polynomials of one prime."""
    check_poly(one)
    check_poly(other)
    check_one_prime(one, other)


def check_modulus(modulus):
    """Refuse a constant modulus."""
    if modulus.degree < 1:
        raise InvalidOperation("a constant modulus")


def check_rests(rows):
    """Refuse what is no tuple of pairs of polynomials, or an empty one."""
    if not isinstance(rows, tuple) or not rows:
        raise InvalidPoly("not a tuple of pairs of polynomials")
    for pair in rows:
        if not isinstance(pair, tuple) or len(pair) != 2:
            raise InvalidPoly("not a pair of polynomials")
        for part in pair:
            check_poly(part)
