"""Curves y * y = f(x) over the residues modulo a prime."""

from twinsheets.base.numbers import check_prime, least_nonsquare
from twinsheets.curve.spots import FAR, is_shaped, point_spots, rim_spots
from twinsheets.errors import InvalidCurve, ParseError
from twinsheets.poly.division import is_row_square_free
from twinsheets.poly.polys import check_poly, is_text, poly_of, row_told
from twinsheets.poly.rows import row_scaled

MAX_DEGREE = 8


class Curve:
    """A curve; it never changes."""

    def __init__(self, poly):
        check_poly(poly)
        if not 1 <= poly.degree <= MAX_DEGREE or not is_row_square_free(poly.prime, poly.entries):
            raise InvalidCurve("not a square-free polynomial of degree 1 to 8")
        self.f = poly
        self.prime = poly.prime
        self.genus = (poly.degree - 1) // 2
        self.rims = rim_spots(poly.prime, poly.entries)
        self.kind = kind_by_rims(self.rims)
        self._points = points_of(poly.prime, poly.entries, self.rims)

    @classmethod
    def read(cls, prime, text):
        """The curve with the polynomial of a text."""
        check_prime(prime)
        if not is_text(prime, text):
            raise ParseError(0)
        row = row_told(prime, text)
        if row is None:
            raise InvalidCurve("a polynomial with too many entries")
        return cls(poly_of(prime, row))

    def points(self):
        """The ascending tuple of all places of degree 1."""
        return self._points

    def twist(self):
        """The curve of the polynomial times the least residue that is no square."""
        return Curve(poly_of(self.prime, row_scaled(self.prime, self.f.entries, least_nonsquare(self.prime))))

    def __len__(self):
        return len(self._points)

    def __iter__(self):
        return iter(self._points)

    def __contains__(self, value):
        # The form is asked for first, since True is equal to 1.
        return is_shaped(value) and value in self._points

    def __eq__(self, other):
        return isinstance(other, Curve) and self.f == other.f

    def __str__(self):
        return f"y^2 = {self.f} over {self.prime}"


def kind_by_rims(rims):
    """The kind of a curve with these places at its rim."""
    if len(rims) == 2:
        return "two"
    return "none" if rims[0] == FAR else "one"


def points_of(prime, row, rims):
    """The ascending tuple of all places of degree 1 of a curve with these places at its rim."""
    ahead = [] if rims[0] == FAR else list(rims)
    return tuple(ahead + point_spots(prime, row))


def check_curve(value):
    """Refuse what is no curve."""
    if not isinstance(value, Curve):
        raise InvalidCurve("not a curve")
