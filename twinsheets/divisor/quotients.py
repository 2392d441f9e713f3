"""Functions (a + b y) / c as triples of rows, in which c is not zero, and their orders.

Here y * y is the row f of the curve.
"""

from twinsheets.base.numbers import inverse_of
from twinsheets.curve.spots import RIM
from twinsheets.poly.factors import multiplicity
from twinsheets.poly.rows import ONE, row_common, row_difference, row_negative, row_product, row_quotient, row_rest
from twinsheets.poly.rows import row_scaled, row_sum


def least_terms(prime, triple):
    """The triple without a common factor, and with a monic c."""
    a, b, c = triple
    if not a and not b:
        return (), (), ONE
    if len(c) > 1:
        # The shorter ones first: most often nothing is left of them.
        shared = row_common(prime, row_common(prime, c, a), b)
        if len(shared) > 1:
            a, b, c = [row_quotient(prime, row, shared) for row in (a, b, c)]
    inverse = inverse_of(prime, c[-1])
    if inverse == 1:
        return a, b, c
    return row_scaled(prime, a, inverse), row_scaled(prime, b, inverse), row_scaled(prime, c, inverse)


def triple_sum(prime, one, other):
    """The sum."""
    a, b, c = one
    d, e, f = other
    if c == f:
        return row_sum(prime, a, d), row_sum(prime, b, e), c
    first = row_sum(prime, row_product(prime, a, f), row_product(prime, d, c))
    second = row_sum(prime, row_product(prime, b, f), row_product(prime, e, c))
    return first, second, row_product(prime, c, f)


def triple_negative(prime, triple):
    """The triple with -a and -b."""
    a, b, c = triple
    return row_negative(prime, a), row_negative(prime, b), c


def triple_opposite(prime, triple):
    """The triple with -b."""
    a, b, c = triple
    return a, row_negative(prime, b), c


def triple_product(prime, f, one, other):
    """The product."""
    first, second = pair_product(prime, f, one[:2], other[:2])
    return first, second, row_product(prime, one[2], other[2])


def pair_product(prime, f, one, other):
    """The product of two sums a + b y."""
    a, b = one
    d, e = other
    first = row_sum(prime, row_product(prime, a, d), row_product(prime, f, row_product(prime, b, e)))
    second = row_sum(prime, row_product(prime, a, e), row_product(prime, b, d))
    return first, second


def triple_inverse(prime, f, triple):
    """The inverse of a triple other than zero: multiplied by the opposite above and below."""
    a, b, c = triple
    return row_product(prime, c, a), row_negative(prime, row_product(prime, c, b)), pair_norm(prime, f, a, b)


def pair_norm(prime, f, a, b):
    """The row a * a - f * b * b."""
    return row_difference(prime, row_product(prime, a, a), row_product(prime, f, row_product(prime, b, b)))


def triple_power(prime, f, triple, exponent):
    """The power with an exponent of at least 0."""
    power = (ONE, (), ONE)
    while exponent:
        if exponent % 2:
            power = triple_product(prime, f, power, triple)
        exponent = exponent // 2
        if exponent:
            triple = least_terms(prime, triple_product(prime, f, triple, triple))
    return power


def order_at_spot(curve, triple, spot):
    """The order at a place of a triple other than zero, in its least terms."""
    first, second = spot
    if first == RIM:
        return rim_order(curve, triple, second)
    prime, (a, b, c) = curve.prime, triple
    known = [multiplicity(prime, row, first) for row in (a, b) if row]
    low = min(known)
    below = multiplicity(prime, c, first)
    if second is None:
        return low - below
    if second == ():
        ends = ([2 * known[0]] if a else []) + ([2 * known[-1] + 1] if b else [])
        return min(ends) - 2 * below
    for _ in range(low):
        a, b = row_quotient(prime, a, first), row_quotient(prime, b, first)
    if row_rest(prime, row_sum(prime, a, row_product(prime, b, second)), first):
        return low - below
    return low + multiplicity(prime, pair_norm(prime, curve.f.entries, a, b), first) - below


def rim_order(curve, triple, number):
    """The order at the place at the rim with a number."""
    a, b, c = triple
    prime, f, bottom = curve.prime, curve.f.entries, len(c) - 1
    if curve.kind == "one":
        ends = ([2 * len(a) - 2] if a else []) + ([2 * len(b) + len(f) - 3] if b else [])
        return 2 * bottom - max(ends)
    further = curve.genus + 1
    top = max(([len(a) - 1] if a else []) + ([len(b) - 1 + further] if b else []))
    if curve.kind == "none":
        return bottom - top
    high = a[top] if top < len(a) else 0
    low = b[top - further] if 0 <= top - further < len(b) else 0
    if (high + number * low) % prime:
        return bottom - top
    return bottom + top - (len(pair_norm(prime, f, a, b)) - 1)
