"""What a divisor lets off the rim: ideals, told by a modulus and by a root of f modulo it.

The functions are (top / bottom) * (a + b y), with all polynomials a and b such that the modulus
divides a + b * root. Nothing is checked here.
"""

from twinsheets.curve.spots import RIM
from twinsheets.poly.division import row_inverse, row_joined
from twinsheets.poly.rows import ONE, row_cofactors, row_difference, row_negative, row_power, row_product
from twinsheets.poly.rows import row_quotient, row_rest, row_scaled, row_sum


def lifted_root(prime, f, factor, root, many):
    """The root of f modulo a power of an irreducible row that is this root, other than zero, modulo the row itself."""
    if many == 1:
        return root
    half = row_inverse(prime, row_scaled(prime, root, 2), factor)
    known = 1
    while known < many:
        # Each step doubles the exponent up to which both the root and the inverse of its double hold.
        known = min(2 * known, many)
        modulus = row_power(prime, factor, known)
        missing = row_difference(prime, row_product(prime, root, root), f)
        root = row_rest(prime, row_difference(prime, root, row_product(prime, missing, half)), modulus)
        met = row_product(prime, row_scaled(prime, root, 2), half)
        half = row_rest(prime, row_product(prime, half, row_difference(prime, (2,), met)), modulus)
    return root


def ideal_of(curve, table):
    """The tuple (top, bottom, modulus, root) for the functions that the places off the rim let."""
    prime, f = curve.prime, curve.f.entries
    top, bottom, modulus, root = ONE, ONE, ONE, ()
    for factor, spots in over_factors(table).items():
        common, zeros, rest = let_over(prime, spots)
        if common > 0:
            bottom = row_product(prime, bottom, row_power(prime, factor, common))
        elif common < 0:
            top = row_product(prime, top, row_power(prime, factor, -common))
        if zeros:
            rest = lifted_root(prime, f, factor, rest, zeros)
            power = row_power(prime, factor, zeros)
            root = rest if modulus == ONE else row_joined(prime, root, modulus, rest, power)
            modulus = row_product(prime, modulus, power)
    return top, bottom, modulus, root


def over_factors(table):
    """The dict from the rows of places off the rim to the lists of pairs of their roots and integers."""
    found = {}
    for (first, second), many in table.items():
        if first != RIM and many:
            found.setdefault(first, []).append((second, many))
    return found


def let_over(prime, spots):
    """How often a factor may stand below, and how often which root must then be met, for the places over it."""
    root, many = spots[0]
    if root is None:
        return many, 0, ()
    if root == ():
        common = -(-many // 2)
        return common, 2 * common - many, ()
    # Both places together are the factor; zeros are left where less is let.
    other = spots[1][1] if len(spots) > 1 else 0
    if many >= other:
        return many, many - other, row_negative(prime, root)
    return other, other - many, root


def ideal_product(prime, f, one, other):
    """The rows d, u, v such that two pairs (u, v) multiplied are the row d times the pair (u, v)."""
    u, v = one
    w, root = other
    shared, left, right = row_cofactors(prime, u, w)
    if shared == ONE:
        # The root is v modulo u, and the other one modulo w.
        missing = row_rest(prime, row_product(prime, row_difference(prime, root, v), left), w)
        return ONE, row_product(prime, u, w), row_sum(prime, v, row_product(prime, u, missing))
    both, outer, inner = row_cofactors(prime, shared, row_sum(prime, v, root))
    product = row_quotient(prime, row_product(prime, u, w), row_product(prime, both, both))
    first = row_product(prime, row_product(prime, left, u), root)
    second = row_product(prime, row_product(prime, right, w), v)
    third = row_sum(prime, row_product(prime, v, root), f)
    total = row_product(prime, outer, row_sum(prime, first, second))
    total = row_quotient(prime, row_sum(prime, total, row_product(prime, inner, third)), both)
    return both, product, row_rest(prime, total, product)
