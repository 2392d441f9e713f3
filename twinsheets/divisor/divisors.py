"""Divisors: finite sums of places."""

from twinsheets.base.numbers import check_count, is_within
from twinsheets.curve.curves import check_curve
from twinsheets.curve.places import check_place
from twinsheets.curve.spots import RIM, factor_spots, is_shaped, is_spot, opposite_spot, spot_degree, spot_rank
from twinsheets.divisor.quotients import order_at_spot, pair_norm
from twinsheets.divisor.functions import check_function, check_one_curve, triple_of_function
from twinsheets.errors import InvalidDivisor, InvalidOperation, TooMany
from twinsheets.poly.factors import degree_products, equal_parts, row_radical
from twinsheets.poly.polys import terms_of
from twinsheets.poly.rows import row_product

MAX_COEFFICIENT = 200
# Places over polynomials of greater degrees are not looked for.
_MAX_DEGREE = 8


class Summed:
    """Pairs of a place and a coefficient that the package worked out."""

    def __init__(self, pairs):
        self.pairs = pairs


class Divisor:
    """A divisor; it never changes."""

    def __init__(self, curve, table):
        check_curve(curve)
        pairs = table.pairs if isinstance(table, Summed) else pairs_told(curve, table)
        self.curve = curve
        self.degree = sum([many * spot_degree(spot) for spot, many in pairs])
        self.is_positive = all([many > 0 for _, many in pairs])
        self._pairs = pairs
        self._table = {spot: many for spot, many in pairs}
        self._spots = tuple([spot for spot, _ in pairs])

    @property
    def table(self):
        """The dict from the places, ascending, to their coefficients."""
        return {spot: many for spot, many in self._pairs}

    def __add__(self, other):
        if not isinstance(other, Divisor):
            return NotImplemented
        check_one_curve(self, other)
        return divisor_with(self.curve, summed(self.table, other.table, 1))

    def __sub__(self, other):
        if not isinstance(other, Divisor):
            return NotImplemented
        check_one_curve(self, other)
        return divisor_with(self.curve, summed(self.table, other.table, -1))

    def __neg__(self):
        return divisor_with(self.curve, summed({}, self.table, -1))

    def times(self, many):
        """Each coefficient multiplied."""
        check_count(many, -MAX_COEFFICIENT, MAX_COEFFICIENT)
        return divisor_with(self.curve, summed({}, self.table, many))

    def at(self, place):
        """The coefficient of a place."""
        check_place(self.curve, place)
        return self._table.get(place, 0)

    def opposite(self):
        """The divisor with the opposite place of each place."""
        found = {opposite_spot(self.curve.prime, spot): many for spot, many in self._pairs}
        return divisor_with(self.curve, found)

    def __len__(self):
        return len(self._pairs)

    def __iter__(self):
        return iter(self._spots)

    def __contains__(self, value):
        # The form is asked for first, since True is equal to 1.
        return is_shaped(value) and value in self._table

    def __eq__(self, other):
        return isinstance(other, Divisor) and self.curve == other.curve and self._pairs == other._pairs

    def __str__(self):
        if not self._pairs:
            return "0"
        texts = [pair_text(spot, many) for spot, many in self._pairs]
        first, many = self._pairs[0]
        # Ahead of the first place stands no plus, and its minus has no blank behind it.
        texts[0] = f"-{spot_text(first, many)}" if many < 0 else spot_text(first, many)
        return " ".join(texts)


def divisor_of(function):
    """The divisor of a function."""
    check_function(function)
    if function.is_zero:
        raise InvalidOperation("zero has no divisor")
    curve, triple = function.curve, triple_of_function(function)
    prime, f = curve.prime, curve.f.entries
    a, b, c = triple
    # There are zeros or poles over just the factors of c and of the norm of a + b y.
    both = row_product(prime, row_radical(prime, c), row_radical(prime, pair_norm(prime, f, a, b)))
    spots = [spot for factor in small_factors(prime, both) for spot in factor_spots(prime, f, factor)]
    return divisor_with(curve, {spot: order_at_spot(curve, triple, spot) for spot in list(curve.rims) + spots})


def place_divisor(curve, place):
    """The divisor with the coefficient 1 at a place alone."""
    check_place(curve, place)
    return Divisor(curve, Summed(((place, 1),)))


def small_factors(prime, row):
    """The irreducible factors of a row other than zero, if none is too great."""
    row = row_radical(prime, row)
    products = degree_products(prime, row, _MAX_DEGREE)
    told = sum([len(product) - 1 for degree, product in products.items() if degree <= _MAX_DEGREE])
    if told < len(row) - 1:
        raise TooMany(_MAX_DEGREE)
    return [factor for degree, product in products.items() for factor in equal_parts(prime, product, degree)]


def pairs_told(curve, table):
    """The ascending pairs of a dict that is passed."""
    if not isinstance(table, dict):
        raise InvalidDivisor("not a dict")
    for spot, many in table.items():
        if not is_within(many, -MAX_COEFFICIENT, MAX_COEFFICIENT):
            raise InvalidDivisor("not a coefficient")
        if not is_spot(curve.prime, curve.f.entries, curve.rims, spot):
            raise InvalidDivisor("not a place of the curve")
    return ascending_pairs(table)


def ascending_pairs(table):
    """The tuple of the pairs of a dict whose coefficients are not 0, by ascending places."""
    ranked = sorted([(spot_rank(spot), spot, many) for spot, many in table.items() if many])
    return tuple([(spot, many) for _, spot, many in ranked])


def summed(table, other, factor):
    """The coefficients of the one dict, and the factor times those of the other one."""
    found = {spot: many for spot, many in table.items()}
    for spot, many in other.items():
        found[spot] = found.get(spot, 0) + factor * many
    return found


def divisor_with(curve, table):
    """The divisor with these places of the curve, if no coefficient is too great."""
    for many in table.values():
        if not -MAX_COEFFICIENT <= many <= MAX_COEFFICIENT:
            raise TooMany(MAX_COEFFICIENT)
    return Divisor(curve, Summed(ascending_pairs(table)))


def spot_text(spot, many):
    """The text of a place with its coefficient, but for the sign."""
    first, second = spot
    size = many if many > 0 else -many
    ahead = "" if size == 1 else str(size)
    if first == RIM:
        return f"{ahead}(rim {second})"
    behind = "none" if second is None else "+".join(terms_of(second))
    factor = "+".join(terms_of(first))
    return f"{ahead}({factor}: {behind})"


def pair_text(spot, many):
    """The text of a place that is not the first one."""
    text = spot_text(spot, many)
    return f"+ {text}" if many > 0 else f"- {text}"
