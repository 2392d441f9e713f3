"""Places as plain tuples, over the row of a curve's polynomial."""

from twinsheets.base.numbers import is_integer, residue_root
from twinsheets.poly.factors import is_row_irreducible
from twinsheets.poly.polys import are_entries
from twinsheets.poly.rows import row_difference, row_negative, row_product, row_rest, row_value
from twinsheets.poly.signs import factor_roots, row_sign

RIM = "rim"
# The place at the rim of a curve of the kind "none".
FAR = (RIM, -1)


def rim_spots(prime, row):
    """The ascending tuple of the places at the rim."""
    if len(row) % 2 == 0:
        return ((RIM, 0),)
    root = residue_root(prime, row[-1])
    return (FAR,) if root is None else ((RIM, root), (RIM, prime - root))


def point_spots(prime, row):
    """The ascending list of the places of degree 1 off the rim."""
    roots = {root * root % prime: root for root in range((prime + 1) // 2)}
    found = []
    for low in range(prime):
        root = roots.get(row_value(prime, row, -low % prime))
        if root == 0:
            found.append(((low, 1), ()))
        elif root is not None:
            found.extend([((low, 1), (root,)), ((low, 1), (prime - root,))])
    return found


def spot_at(prime, x, y):
    """The place of a point."""
    return (-x % prime, 1), ((y,) if y else ())


def factor_spots(prime, row, factor):
    """The ascending tuple of the places over a monic irreducible row."""
    if row_sign(prime, row, factor) == -1:
        return ((factor, None),)
    roots = factor_roots(prime, row_rest(prime, row, factor), factor)
    # Both roots have equally many entries, so that the greater powers tell which one is lesser.
    ascending = sorted([root[::-1] for root in roots])
    return tuple([(factor, root[::-1]) for root in ascending])


def is_shaped(value):
    """Whether the value is a tuple like those of places, whatever the prime."""
    if not isinstance(value, tuple) or len(value) != 2:
        return False
    first, second = value
    if isinstance(first, str):
        return first == RIM and is_integer(second)
    return are_integers(first) and (second is None or are_integers(second))


def are_integers(value):
    """Whether the value is a tuple of integers."""
    return isinstance(value, tuple) and all([is_integer(entry) for entry in value])


def is_spot(prime, row, rims, value):
    """Whether the value is a place of the curve with these places at its rim."""
    if not is_shaped(value):
        return False
    factor, root = value
    if factor == RIM:
        return value in rims
    if not are_entries(prime, factor) or len(factor) < 2 or factor[-1] != 1:
        return False
    if root is None:
        told = row_sign(prime, row, factor) == -1
    else:
        told = are_entries(prime, root) and len(root) < len(factor) and is_root(prime, row, factor, root)
    return told and is_row_irreducible(prime, factor)


def is_root(prime, row, factor, root):
    """Whether a row less the square of a root is divided by a factor."""
    return not row_rest(prime, row_difference(prime, row, row_product(prime, root, root)), factor)


def spot_degree(spot):
    """The degree of a place."""
    first, second = spot
    if first == RIM:
        return 2 if second == -1 else 1
    size = len(first) - 1
    return 2 * size if second is None else size


def opposite_spot(prime, spot):
    """The opposite place."""
    first, second = spot
    if first == RIM:
        return (first, prime - second) if second > 0 else spot
    return spot if second is None else (first, row_negative(prime, second))


def spot_rank(spot):
    """A tuple for each place, ascending as the places are."""
    first, second = spot
    if first == RIM:
        return 0, second
    root = () if second is None else second
    return len(first), first[::-1], len(root), root[::-1]
