"""The places of a curve: points, or several points over a greater field that belong together."""

from twinsheets.base.numbers import check_count, is_power_above, is_within
from twinsheets.curve.curves import check_curve
from twinsheets.curve.spots import RIM, factor_spots, is_spot, opposite_spot, spot_at, spot_degree
from twinsheets.errors import InvalidOperation, InvalidPlace, InvalidPoly, TooMany
from twinsheets.poly.factors import irreducibles, is_row_irreducible
from twinsheets.poly.polys import check_poly
from twinsheets.poly.signs import row_sign

MAX_DEGREE = 8
# So many polynomials are gone through at most.
_MAX_WALKED = 3000


def is_place(curve, value):
    """Whether the value is a place of the curve."""
    check_curve(curve)
    return is_spot(curve.prime, curve.f.entries, curve.rims, value)


def degree_of(curve, place):
    """The degree of a place."""
    check_place(curve, place)
    return spot_degree(place)


def opposite(curve, place):
    """The opposite place."""
    check_place(curve, place)
    return opposite_spot(curve.prime, place)


def kind_of(curve, place):
    """The word for the kind of a place."""
    check_place(curve, place)
    first, second = place
    if first == RIM:
        return "rim"
    if second is None:
        return "inert"
    return "split" if second else "ramified"


def places_over(curve, poly):
    """The ascending tuple of the places with a monic irreducible polynomial."""
    check_curve(curve)
    check_poly(poly)
    if not poly.is_monic or not is_row_irreducible(poly.prime, poly.entries):
        raise InvalidPoly("not monic and irreducible")
    if poly.prime != curve.prime:
        raise InvalidOperation("not a polynomial over the prime of the curve")
    return factor_spots(curve.prime, curve.f.entries, poly.entries)


def places(curve, degree):
    """All places of a degree, ascending."""
    check_curve(curve)
    check_count(degree, 1, MAX_DEGREE)
    if is_power_above(curve.prime, degree, _MAX_WALKED):
        raise TooMany(_MAX_WALKED)
    for spot in curve.rims:
        if spot_degree(spot) == degree:
            yield spot
    # The polynomial of an inert place has half the degree of the place.
    half = degree // 2
    if degree % 2 == 0:
        for poly in irreducibles(curve.prime, half):
            if row_sign(curve.prime, curve.f.entries, poly.entries) == -1:
                yield poly.entries, None
    for poly in irreducibles(curve.prime, degree):
        for spot in factor_spots(curve.prime, curve.f.entries, poly.entries):
            if spot_degree(spot) == degree:
                yield spot


def point_at(curve, x, y):
    """The place of a point."""
    check_curve(curve)
    top = curve.prime - 1
    if not is_within(x, 0, top) or not is_within(y, 0, top) or spot_at(curve.prime, x, y) not in curve:
        raise InvalidPlace("not a point of the curve")
    return spot_at(curve.prime, x, y)


def point_of(curve, place):
    """The pair of residues of a place of degree 1 off the rim."""
    check_curve(curve)
    check_point(curve, place)
    return point_pair(curve.prime, place)


def point_pair(prime, spot):
    """The pair of residues of what surely is a place of degree 1 off the rim."""
    factor, root = spot
    return -factor[0] % prime, (root[0] if root else 0)


def check_place(curve, place):
    """Refuse what is no curve, and no place of it."""
    if not is_place(curve, place):
        raise InvalidPlace("not a place of the curve")


def check_point(curve, place):
    """Refuse what is no place of degree 1 off the rim."""
    if place not in curve or place in curve.rims:
        raise InvalidPlace("not a place of degree 1 off the rim")
