"""Functions with bounded poles, as pairs of short vectors of a lattice of rows.

The a + b y that an ideal lets are a lattice over the polynomials, of two vectors (a, b), and the
rim bounds their degrees: the steps of the common divisor of the modulus and the root lead to the
two shortest ones.
"""

from twinsheets.base.numbers import inverse_of
from twinsheets.divisor.ideals import ideal_of, ideal_product, let_over, over_factors
from twinsheets.divisor.quotients import pair_norm, rim_order
from twinsheets.poly.rows import ONE, row_difference, row_divided, row_monic, row_negative, row_product
from twinsheets.poly.rows import row_quotient, row_rest, row_sum, trimmed


def root_series(curve, many):
    """So many entries of the series whose square is f, from the power g + 1 down, as at the first rim."""
    prime, f = curve.prime, curve.f.entries[::-1]
    _, lead = curve.rims[0]
    half = inverse_of(prime, 2 * lead % prime)
    found = [lead]
    for at in range(1, many):
        known = sum([found[back] * found[at - back] for back in range(1, at)])
        found.append(((f[at] if at < len(f) else 0) - known) * half % prime)
    return found


def rim_limits(curve, bounds):
    """The tuple (high, low, tail, pad) for the poles of a + b y that are let at the places of the rim.

    They are let if the degree of x ** pad * a - b * tail is at most high, and that of b at most low.
    """
    first, further = bounds[0], curve.genus + 1
    if curve.kind == "one":
        return first // 2, (first - curve.f.degree) // 2, (), 0
    if curve.kind == "none":
        return first, first - further, (), 0
    second = bounds[1]
    size = first - second if first > second else second - first
    if size == 0:
        return first, first - further, (), 0
    # Where less is let, y is the series, or its opposite at the second rim; only so much of it matters.
    series = root_series(curve, size)
    if first < second:
        series = [-entry % curve.prime for entry in series]
    pad = max(0, size - further - 1)
    tail = [0 for _ in range(further + 1 + pad - size)] + series[::-1]
    return min(first, second) + pad, max(first, second) - further, trimmed(tail), pad


def short_basis(curve, modulus, root, bounds):
    """Two triples (room, a, b) by which all vectors are told: x ** i times one is let for i up to its room."""
    prime = curve.prime
    high, low, tail, pad = rim_limits(curve, bounds)
    zeros = (0,) * pad
    before, found = zeros + modulus, ()
    start = row_sum(prime, zeros + root if root else (), tail)
    after, further = row_rest(prime, row_negative(prime, start), before), ONE
    while after and len(after) > len(further) + high - low:
        quotient, rest = row_divided(prime, before, after)
        before, after = after, rest
        found, further = further, row_difference(prime, found, row_product(prime, quotient, further))
    one = row_sum(prime, before, row_product(prime, found, tail))[pad:]
    other = row_sum(prime, after, row_product(prime, further, tail))[pad:]
    return (high + 1 - len(before), one, found), (low + 1 - len(further), other, further)


def let_basis(curve, table):
    """The tuple (top, bottom, basis) for all functions that a table of places lets."""
    top, bottom, modulus, root = ideal_of(curve, table)
    bounds = moved(rim_entries(curve, table), rim_weight(curve) * (len(bottom) - len(top)))
    return top, bottom, short_basis(curve, modulus, root, bounds)


def rim_entries(curve, table):
    """The integers of a table at the places of the rim."""
    return [table.get(rim, 0) for rim in curve.rims]


def rim_weight(curve):
    """The order of the pole of x at each place of the rim."""
    return 2 if curve.kind == "one" else 1


def moved(bounds, many):
    """The bounds, each of them that much greater."""
    return [bound + many for bound in bounds]


def let_triples(curve, table):
    """The rows (a, b, c) of a basis of the space of a table."""
    return basis_triples(curve.prime, let_basis(curve, table))


def basis_triples(prime, let):
    """The rows (a, b, c) of the functions that a tuple (top, bottom, basis) tells."""
    top, bottom, basis = let
    found = []
    for room, a, b in basis:
        first, second = row_product(prime, top, a), row_product(prime, top, b)
        for power in range(room + 1):
            zeros = (0,) * power
            found.append((zeros + first if first else (), zeros + second if second else (), bottom))
    return found


def reduced(curve, modulus, root, bounds):
    """The tuple (u, v, n, a, b) for the shortest vector: a + b y has the zeros of the modulus, and those of (u, v).

    The poles of a + b y at the first rim are n less than let there, 0 for the kind "one".
    """
    prime, f = curve.prime, curve.f.entries
    one, other = short_basis(curve, modulus, root, bounds)
    if one[0] < other[0]:
        one, other = other, one
    _, a, b = one
    _, c, d = other
    u = row_monic(prime, row_quotient(prime, pair_norm(prime, f, a, b), modulus))
    # The quotient of both vectors tells v; what stands below it is u and the modulus times a residue.
    below = row_difference(prime, row_product(prime, a, d), row_product(prime, c, b))
    both = row_difference(prime, row_product(prime, a, c), row_product(prime, f, row_product(prime, b, d)))
    v = row_rest(prime, row_quotient(prime, both, below), u)
    n = 0
    if curve.kind == "two":
        n = rim_order(curve, (a, b, ONE), curve.rims[0][1]) + bounds[0]
    return u, v, n, a, b


def let_size(curve, table):
    """The size of the space of a table.

    It is that of an ideal with a small modulus, to which each factor of that of the table leads.
    """
    prime = curve.prime
    total = ONE, (), rim_entries(curve, table)
    for factor, spots in over_factors(table).items():
        common, many, root = let_over(prime, spots)
        modulus, rest, bounds = total
        total = modulus, rest, moved(bounds, rim_weight(curve) * common * (len(factor) - 1))
        part = factor, root, [0 for _ in curve.rims]
        while many:
            if many % 2:
                total = small_product(curve, total, part)
            many = many // 2
            if many:
                part = small_product(curve, part, part)
    modulus, root, bounds = total
    return sum([room + 1 for room, _, _ in short_basis(curve, modulus, root, bounds) if room >= 0])


def small_product(curve, one, other):
    """The ideal of two, each with bounds at the rim, but for a function, in which the bounds are told."""
    prime, weight = curve.prime, rim_weight(curve)
    both, modulus, root = ideal_product(prime, curve.f.entries, one[:2], other[:2])
    bounds = [first + second - weight * (len(both) - 1) for first, second in zip(one[2], other[2])]
    if len(modulus) - 1 <= curve.genus + 1:
        return modulus, root, bounds
    # The ideal times that of (u, v) is a + b y; the opposite one of (u, v) times it is u.
    u, v, _, a, b = reduced(curve, modulus, root, [1 for _ in curve.rims])
    orders = [rim_order(curve, (a, b, ONE), rim[1]) for rim in curve.rims]
    further = [bound + order + weight * (len(u) - 1) for bound, order in zip(bounds, orders)]
    return u, row_negative(prime, v), further
