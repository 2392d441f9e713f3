"""Chains, units, and solutions of u * u - f * v * v = c, on curves of the kind "two"."""

from twinsheets.base.numbers import check_count, int_power, inverse_of, residue_root
from twinsheets.chain.steps import convergent, least_norm, least_unit_rows, next_rows, root_row, round_of, step
from twinsheets.curve.curves import Curve
from twinsheets.divisor.functions import Function, function_of, triple_of_function
from twinsheets.divisor.quotients import pair_norm, rim_order, triple_power
from twinsheets.errors import InvalidCurve, InvalidFunction, InvalidPoly, InvalidTriple, TooMany
from twinsheets.group.classes import is_class, root_pairs
from twinsheets.poly.polys import Poly, poly_of
from twinsheets.poly.rows import ONE, row_common, row_monic, row_negative, row_scaled
from twinsheets.zeta.counts import class_number

MAX_LENGTH = 2000
MAX_POWER = 60


def root_part(curve):
    """The polynomial of degree g + 1 whose square is f up to the degree g."""
    check_two_rims(curve)
    return poly_of(curve.prime, root_row(curve))


def chain(curve, many):
    """The tuple of the first triples of the chain."""
    check_two_rims(curve)
    check_count(many, 0, MAX_LENGTH)
    root = root_row(curve)
    found = []
    one, other = (), ONE
    for _ in range(many):
        quotient, further, divisor = step(curve, root, one, other)
        found.append(tuple([poly_of(curve.prime, row) for row in (quotient, one, other)]))
        one, other = further, divisor
    return tuple(found)


def length_of(curve):
    """The length."""
    check_two_rims(curve)
    _, _, length = round_of(curve, MAX_LENGTH)
    return length


def least_unit(curve):
    """The least unit, a function."""
    return unit_power(curve, 1)


def ideal_classes(curve):
    """The number of ideal classes."""
    check_two_rims(curve)
    count = class_number(curve)
    return count // length_of(curve)


def unit_power(curve, number):
    """The power of the least unit."""
    check_two_rims(curve)
    check_count(number, -MAX_POWER, MAX_POWER)
    size = number if number >= 0 else -number
    if length_of(curve) * size > MAX_LENGTH:
        raise TooMany(MAX_LENGTH)
    a, b, _ = least_unit_rows(curve, MAX_LENGTH)
    if number < 0:
        # The inverse is the opposite one over the norm.
        inverse = inverse_of(curve.prime, pair_norm(curve.prime, curve.f.entries, a, b)[0])
        a, b = [row_scaled(curve.prime, row, inverse) for row in (a, row_negative(curve.prime, b))]
    return function_of(curve, triple_power(curve.prime, curve.f.entries, (a, b, ONE), size))


def is_unit(curve, value):
    """Whether the value is a unit of the curve."""
    check_two_rims(curve)
    norm = whole_norm(curve, value)
    return norm is not None and len(norm) == 1


def unit_parts(curve, unit):
    """The pair of the residue and of the exponent by which a unit is told."""
    if not is_unit(curve, unit):
        raise InvalidFunction("not a unit of the curve")
    prime, triple = curve.prime, triple_of_function(unit)
    lead = triple[0][-1]
    order = rim_order(curve, triple, curve.rims[0][1])
    if order == 0:
        return lead, 0
    quotients, residue, length = round_of(curve, None)
    exponent = -order // length
    size = exponent if exponent > 0 else -exponent
    # The k-th power of the least unit has the leading entry 2 ** (k - 1) in its U.
    below = int_power(2, size - 1)
    if exponent < 0:
        lead = lead * int_power(least_norm(curve, quotients, residue), size)
    return lead * inverse_of(prime, below % prime) % prime, exponent


def solve(curve, c):
    """A solution of U * U - f * V * V = c, or None."""
    check_two_rims(curve)
    check_side(curve, c)
    prime, root = curve.prime, root_row(curve)
    quotients, _, _ = round_of(curve, MAX_LENGTH)
    one, other = (), ONE
    found = []
    for at in range(2 * len(quotients)):
        told = row_negative(prime, other) if at % 2 else other
        factor = square_factor(prime, c.entries, told)
        if factor is not None:
            a, b = convergent(prime, found)
            return function_of(curve, (row_scaled(prime, a, factor), row_scaled(prime, b, factor), ONE))
        quotient, one, other = step(curve, root, one, other)
        found.append(quotient)
    return None


def is_solution(curve, c, value):
    """Whether the value is a solution for c."""
    check_two_rims(curve)
    check_side(curve, c)
    if whole_norm(curve, value) != c.entries:
        return False
    return row_common(curve.prime, value.a.entries, value.b.entries) == ONE


def is_reduced_pair(curve, value):
    """Whether the value is a reduced pair."""
    check_two_rims(curve)
    if not isinstance(value, tuple) or len(value) != 2:
        return False
    if not all([isinstance(part, Poly) and part.prime == curve.prime for part in value]):
        return False
    u, v = value
    return is_class(curve, u.entries, v.entries, 0)


def next_pair(curve, pair):
    """The next pair of a reduced pair."""
    if not is_reduced_pair(curve, pair):
        raise InvalidTriple("not a reduced pair of the curve")
    u, v = pair
    return pair_of(curve.prime, next_rows(curve, root_row(curve), u.entries, v.entries))


def reduced_pairs(curve):
    """The tuple of all reduced pairs, ascending."""
    check_round(curve)
    return tuple([pair_of(curve.prime, rows) for rows in root_pairs(curve)])


def rounds(curve):
    """The tuple of all rounds, each a tuple of reduced pairs."""
    check_round(curve)
    root = root_row(curve)
    met, found = {}, []
    # Ascending, so that each round is met at its least pair first.
    for first in root_pairs(curve):
        if first not in met:
            pairs, rows = [], first
            while rows not in met:
                met[rows] = True
                pairs.append(pair_of(curve.prime, rows))
                rows = next_rows(curve, root, rows[0], rows[1])
            found.append(tuple(pairs))
    return tuple(found)


def check_two_rims(curve):
    """Refuse what is no curve of the kind "two"."""
    if not isinstance(curve, Curve) or curve.kind != "two":
        raise InvalidCurve("not a curve of the kind two")


def check_round(curve):
    """Refuse what is no curve of the kind "two", and one with too many classes."""
    check_two_rims(curve)
    if class_number(curve) > MAX_LENGTH:
        raise TooMany(MAX_LENGTH)


def check_side(curve, value):
    """Refuse what is no polynomial but zero of the prime with at most the degree g."""
    if not isinstance(value, Poly) or value.prime != curve.prime or not 0 <= value.degree <= curve.genus:
        raise InvalidPoly("not a polynomial for a solution")


def whole_norm(curve, value):
    """The row of the norm of a function of the curve without a denominator, None for other values."""
    if not isinstance(value, Function) or value.curve != curve or value.c.degree > 0:
        return None
    return pair_norm(curve.prime, curve.f.entries, value.a.entries, value.b.entries)


def square_factor(prime, row, other):
    """A residue by whose square the other row becomes the first one, or None; neither is zero."""
    if row_monic(prime, row) != row_monic(prime, other):
        return None
    return residue_root(prime, row[-1] * inverse_of(prime, other[-1]) % prime)


def pair_of(prime, rows):
    """The pair of the polynomials of two rows."""
    u, v = rows
    return poly_of(prime, u), poly_of(prime, v)
