"""The steps of a chain, its convergents, and reduced pairs, as rows; nothing is checked here."""

from twinsheets.base.numbers import inverse_of
from twinsheets.divisor.lattices import root_series
from twinsheets.errors import TooMany
from twinsheets.poly.rows import ONE, row_difference, row_monic, row_product, row_quotient, row_rest, row_scaled
from twinsheets.poly.rows import row_sum


def root_row(curve):
    """The row S, of degree g + 1, for which f - S * S has at most the degree g."""
    return tuple(root_series(curve, curve.genus + 2)[::-1])


def step(curve, root, one, other):
    """The row A for the rows P and Q, and the next P and Q."""
    prime, f = curve.prime, curve.f.entries
    quotient = row_quotient(prime, row_sum(prime, one, root), other)
    further = row_difference(prime, row_product(prime, quotient, other), one)
    missing = row_difference(prime, f, row_product(prime, further, further))
    return quotient, further, row_quotient(prime, missing, other)


def round_of(curve, limit):
    """The rows A(0) to A(m - 1), the residue Q(m), and the length; None stands for no limit."""
    root = root_row(curve)
    found, length = [], 0
    one, other = (), ONE
    while not found or len(other) > 1:
        quotient, one, other = step(curve, root, one, other)
        found.append(quotient)
        length = length + len(quotient) - 1
        if limit is not None and length > limit:
            raise TooMany(limit)
    return found, other[0], length


def convergent(prime, quotients):
    """The rows U(i) and V(i) behind the rows A(0) to A(i); 1 and 0 behind none.

    The tables ((A, 1), (1, 0)) are multiplied, neighbours first, so that long products are few.
    """
    layer = [(row, ONE, ONE, ()) for row in quotients]
    while len(layer) > 1:
        joined = [table_product(prime, layer[at], layer[at + 1]) for at in range(0, len(layer) - 1, 2)]
        layer = joined + layer[2 * len(joined):]
    if not layer:
        return ONE, ()
    first, _, third, _ = layer[0]
    return first, third


def table_product(prime, one, other):
    """The product of two tables of two rows with two entries each."""
    a, b, c, d = one
    e, f, g, h = other
    return (pair_sum(prime, a, e, b, g), pair_sum(prime, a, f, b, h),
            pair_sum(prime, c, e, d, g), pair_sum(prime, c, f, d, h))


def pair_sum(prime, one, other, third, fourth):
    """The product of two rows and that of two further ones, added."""
    return row_sum(prime, row_product(prime, one, other), row_product(prime, third, fourth))


def least_unit_rows(curve, limit):
    """The rows a, b of the least unit, and the length."""
    prime = curve.prime
    quotients, _, length = round_of(curve, limit)
    first, second = convergent(prime, quotients)
    inverse = inverse_of(prime, first[-1])
    return row_scaled(prime, first, inverse), row_scaled(prime, second, inverse), length


def least_norm(curve, quotients, residue):
    """The norm of the least unit, a residue, by the rows A(0) to A(m - 1) and the residue Q(m)."""
    prime, lead = curve.prime, 1
    for row in quotients:
        lead = lead * row[-1] % prime
    norm = residue * inverse_of(prime, lead * lead % prime) % prime
    return norm if len(quotients) % 2 == 0 else prime - norm


def next_rows(curve, root, u, v):
    """The next one of a reduced pair of rows."""
    prime = curve.prime
    one = row_difference(prime, root, row_rest(prime, row_difference(prime, root, v), u))
    _, further, other = step(curve, root, one, u)
    monic = row_monic(prime, other)
    return monic, row_rest(prime, further, monic)
