"""Functions with bounded poles, as pairs of short vectors of a lattice of rows.

Off the rim a divisor lets just the functions (top / bottom) * (a + b y) whose a + b * root is
divided by a modulus; the root is one of f modulo it. They are a lattice over the polynomials, of
two vectors (a, b), and the rim bounds their degrees: the steps of the common divisor of the
modulus and the root lead to the two shortest ones.
"""

from twinsheets.base.numbers import inverse_of
from twinsheets.curve.spots import RIM
from twinsheets.divisor.quotients import pair_norm, rim_order
from twinsheets.poly.division import row_joined
from twinsheets.poly.rows import ONE, row_difference, row_divided, row_monic, row_negative, row_power, row_product
from twinsheets.poly.rows import row_quotient, row_rest, row_scaled, row_sum, trimmed


def lifted_root(prime, f, factor, root, many):
    """The root of f modulo a power of an irreducible row that is this root, other than zero, modulo the row itself."""
    if many == 1:
        return root
    half = half_inverse(prime, factor, root)
    known = 1
    while known < many:
        # Each step doubles the exponent up to which both the root and the inverse of its double hold.
        known = min(2 * known, many)
        modulus = row_power(prime, factor, known)
        missing = row_difference(prime, row_product(prime, root, root), f)
        root = row_rest(prime, row_difference(prime, root, row_product(prime, missing, half)), modulus)
        met = row_product(prime, row_scaled(prime, root, 2), half)
        half = row_rest(prime, row_product(prime, half, row_difference(prime, (2,), met)), modulus)
    return root


def half_inverse(prime, factor, root):
    """The inverse of the double of a root modulo an irreducible row."""
    # The steps of a common divisor, with the factors of the double alone.
    before, after = factor, row_scaled(prime, root, 2)
    found, further = (), ONE
    while len(after) > 1:
        quotient, rest = row_divided(prime, before, after)
        before, after = after, rest
        found, further = further, row_difference(prime, found, row_product(prime, quotient, further))
    return row_scaled(prime, further, inverse_of(prime, after[0]))


def ideal_of(curve, table):
    """The tuple (top, bottom, modulus, root) for the functions that the places off the rim let."""
    prime, f = curve.prime, curve.f.entries
    top, bottom, modulus, root = ONE, ONE, ONE, ()
    for factor, spots in over_factors(table).items():
        common, zeros, rest = let_over(prime, spots)
        if common > 0:
            bottom = row_product(prime, bottom, row_power(prime, factor, common))
        elif common < 0:
            top = row_product(prime, top, row_power(prime, factor, -common))
        if zeros:
            rest = lifted_root(prime, f, factor, rest, zeros)
            power = row_power(prime, factor, zeros)
            root = rest if modulus == ONE else row_joined(prime, root, modulus, rest, power)
            modulus = row_product(prime, modulus, power)
    return top, bottom, modulus, root


def over_factors(table):
    """The dict from the rows of places off the rim to the lists of pairs of their roots and integers."""
    found = {}
    for (first, second), many in table.items():
        if first != RIM and many:
            found.setdefault(first, []).append((second, many))
    return found


def let_over(prime, spots):
    """How often a factor may stand below, and how often which root must then be met, for the places over it."""
    root, many = spots[0]
    if root is None:
        return many, 0, ()
    if root == ():
        common = -(-many // 2)
        return common, 2 * common - many, ()
    # Both places together are the factor; zeros are left where less is let.
    other = spots[1][1] if len(spots) > 1 else 0
    if many >= other:
        return many, many - other, row_negative(prime, root)
    return other, other - many, root


def root_series(curve, many):
    """So many entries of the series whose square is f, from the power g + 1 down, as at the first rim."""
    prime, f = curve.prime, curve.f.entries[::-1]
    _, lead = curve.rims[0]
    half = inverse_of(prime, 2 * lead % prime)
    found = [lead]
    for at in range(1, many):
        known = sum([found[back] * found[at - back] for back in range(1, at)])
        found.append(((f[at] if at < len(f) else 0) - known) * half % prime)
    return found


def rim_limits(curve, bounds):
    """The tuple (high, low, tail, pad) for the poles of a + b y that are let at the places of the rim.

    They are let if the degree of x ** pad * a - b * tail is at most high, and that of b at most low.
    """
    first, further = bounds[0], curve.genus + 1
    if curve.kind == "one":
        return first // 2, (first - curve.f.degree) // 2, (), 0
    if curve.kind == "none":
        return first, first - further, (), 0
    second = bounds[1]
    size = first - second if first > second else second - first
    if size == 0:
        return first, first - further, (), 0
    # Where less is let, y is the series, or its opposite at the second rim; only so much of it matters.
    series = root_series(curve, size)
    if first < second:
        series = [-entry % curve.prime for entry in series]
    pad = max(0, size - further - 1)
    tail = [0 for _ in range(further + 1 + pad - size)] + series[::-1]
    return min(first, second) + pad, max(first, second) - further, trimmed(tail), pad


def short_basis(curve, modulus, root, bounds):
    """Two triples (room, a, b) by which all vectors are told: x ** i times one is let for i up to its room."""
    prime = curve.prime
    high, low, tail, pad = rim_limits(curve, bounds)
    zeros = (0,) * pad
    before, found = zeros + modulus, ()
    start = row_sum(prime, zeros + root if root else (), tail)
    after, further = row_rest(prime, row_negative(prime, start), before), ONE
    while after and len(after) > len(further) + high - low:
        quotient, rest = row_divided(prime, before, after)
        before, after = after, rest
        found, further = further, row_difference(prime, found, row_product(prime, quotient, further))
    one = row_sum(prime, before, row_product(prime, found, tail))[pad:]
    other = row_sum(prime, after, row_product(prime, further, tail))[pad:]
    return (high + 1 - len(before), one, found), (low + 1 - len(further), other, further)


def let_basis(curve, table):
    """The tuple (top, bottom, basis) for all functions that a table of places lets."""
    top, bottom, modulus, root = ideal_of(curve, table)
    less = len(bottom) - len(top)
    # Where f has an odd degree, x has a pole of order 2 at the rim.
    weight = 2 if curve.kind == "one" else 1
    bounds = [table.get(rim, 0) + weight * less for rim in curve.rims]
    return top, bottom, short_basis(curve, modulus, root, bounds)


def let_triples(curve, table):
    """The rows (a, b, c) of a basis of the space of a table."""
    prime = curve.prime
    top, bottom, basis = let_basis(curve, table)
    found = []
    for room, a, b in basis:
        first, second = row_product(prime, top, a), row_product(prime, top, b)
        for power in range(room + 1):
            zeros = (0,) * power
            found.append((zeros + first if first else (), zeros + second if second else (), bottom))
    return found


def reduced(curve, modulus, root, bounds):
    """The tuple (u, v, n, a, b) for the shortest vector: a + b y has the zeros of the modulus, and those of (u, v).

    The poles of a + b y at the first rim are n less than let there, 0 for the kind "one".
    """
    prime, f = curve.prime, curve.f.entries
    one, other = short_basis(curve, modulus, root, bounds)
    if one[0] < other[0]:
        one, other = other, one
    _, a, b = one
    _, c, d = other
    u = row_monic(prime, row_quotient(prime, pair_norm(prime, f, a, b), modulus))
    # The quotient of both vectors tells v; what stands below it is u and the modulus times a residue.
    below = row_difference(prime, row_product(prime, a, d), row_product(prime, c, b))
    both = row_difference(prime, row_product(prime, a, c), row_product(prime, f, row_product(prime, b, d)))
    v = row_rest(prime, row_quotient(prime, both, below), u)
    n = 0
    if curve.kind == "two":
        n = rim_order(curve, (a, b, ONE), curve.rims[0][1]) + bounds[0]
    return u, v, n, a, b
