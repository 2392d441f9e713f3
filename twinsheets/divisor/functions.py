"""Functions (a + b y) / c on a curve."""

from twinsheets.base.numbers import check_count, inverse_of
from twinsheets.curve.curves import check_curve
from twinsheets.curve.places import check_place, check_point, point_pair
from twinsheets.divisor.quotients import least_terms, order_at_spot, pair_norm, triple_inverse, triple_negative
from twinsheets.divisor.quotients import triple_opposite, triple_power, triple_product, triple_sum
from twinsheets.errors import InvalidFunction, InvalidOperation
from twinsheets.poly.factors import multiplicity
from twinsheets.poly.polys import check_poly, poly_of
from twinsheets.poly.rows import ONE, row_common, row_power, row_product, row_quotient, row_value

MAX_POWER = 60


class Function:
    """A function, in its least terms; it never changes."""

    def __init__(self, curve, a, b, c):
        check_curve(curve)
        for part in (a, b, c):
            check_poly(part)
        for part in (a, b, c):
            if part.prime != curve.prime:
                raise InvalidOperation("polynomials over another prime than the curve")
        if c.is_zero:
            raise InvalidOperation("divided by zero")
        triple = least_terms(curve.prime, (a.entries, b.entries, c.entries))
        first, second, bottom = triple
        self.curve = curve
        self.a = poly_of(curve.prime, first)
        self.b = poly_of(curve.prime, second)
        self.c = poly_of(curve.prime, bottom)
        self.is_zero = not first and not second
        self.is_residue = not second and len(first) <= 1 and bottom == ONE
        self._triple = triple

    @property
    def norm(self):
        """The pair of polynomials whose quotient is the product of the function and its opposite."""
        prime, (a, b, c) = self.curve.prime, self._triple
        top, bottom = pair_norm(prime, self.curve.f.entries, a, b), row_product(prime, c, c)
        shared = row_common(prime, top, bottom)
        return poly_of(prime, row_quotient(prime, top, shared)), poly_of(prime, row_quotient(prime, bottom, shared))

    def __add__(self, other):
        if not isinstance(other, Function):
            return NotImplemented
        check_one_curve(self, other)
        return sum_of(self, triple_of_function(other))

    def __sub__(self, other):
        if not isinstance(other, Function):
            return NotImplemented
        check_one_curve(self, other)
        return sum_of(self, triple_negative(self.curve.prime, triple_of_function(other)))

    def __mul__(self, other):
        if not isinstance(other, Function):
            return NotImplemented
        check_one_curve(self, other)
        return product_of(self, triple_of_function(other))

    def __neg__(self):
        return function_of(self.curve, triple_negative(self.curve.prime, self._triple))

    def over(self, other):
        """The quotient."""
        check_function(other)
        check_one_curve(self, other)
        if other.is_zero:
            raise InvalidOperation("divided by zero")
        return product_of(self, inverse_triple(other))

    def opposite(self):
        """The function with -b in the place of b."""
        return function_of(self.curve, triple_opposite(self.curve.prime, self._triple))

    def power(self, many):
        """The power with an exponent from -60 to 60."""
        check_count(many, -MAX_POWER, MAX_POWER)
        if many < 0 and self.is_zero:
            raise InvalidOperation("zero has no such powers")
        triple = self._triple if many >= 0 else least_terms(self.curve.prime, inverse_triple(self))
        size = many if many >= 0 else -many
        return function_of(self.curve, triple_power(self.curve.prime, self.curve.f.entries, triple, size))

    def order_at(self, place):
        """The order at a place."""
        check_place(self.curve, place)
        if self.is_zero:
            raise InvalidOperation("zero has no orders")
        return order_at_spot(self.curve, self._triple, place)

    def value_at(self, place):
        """The residue that the function takes at a place of degree 1 off the rim."""
        check_point(self.curve, place)
        prime, (a, b, c) = self.curve.prime, self._triple
        x, y = point_pair(prime, place)
        first, second = row_value(prime, a, x), row_value(prime, b, x) * y
        bottom = row_value(prime, c, x)
        if bottom:
            return (first + second) * inverse_of(prime, bottom) % prime
        if self.order_at(place) < 0:
            raise InvalidOperation("a pole")
        # Multiplied by a - b y above and below, the function has no zero below but those of c.
        factor = (-x % prime, 1)
        zeros = row_power(prime, factor, multiplicity(prime, c, factor))
        top = row_quotient(prime, pair_norm(prime, self.curve.f.entries, a, b), zeros)
        low = row_value(prime, row_quotient(prime, c, zeros), x) * (first - second)
        return row_value(prime, top, x) * inverse_of(prime, low % prime) % prime

    def __eq__(self, other):
        if not isinstance(other, Function) or self.curve != other.curve:
            return False
        return self.a == other.a and self.b == other.b and self.c == other.c

    def __str__(self):
        top = str(self.a) if self.b.is_zero else f"{self.a}+({self.b})y"
        if self.c.degree > 0:
            return f"({top})/({self.c})"
        return f"{top}"


def function_of(curve, triple):
    """The function of three rows that the package worked out."""
    a, b, c = [poly_of(curve.prime, row) for row in triple]
    return Function(curve, a, b, c)


def triple_of_function(function):
    """The rows of a function."""
    return function.a.entries, function.b.entries, function.c.entries


def sum_of(function, triple):
    """The sum of a function and a triple of rows."""
    return function_of(function.curve, triple_sum(function.curve.prime, triple_of_function(function), triple))


def product_of(function, triple):
    """A function multiplied by a triple of rows."""
    curve = function.curve
    return function_of(curve, triple_product(curve.prime, curve.f.entries, triple_of_function(function), triple))


def inverse_triple(function):
    """The rows of the inverse of a function other than zero."""
    return triple_inverse(function.curve.prime, function.curve.f.entries, triple_of_function(function))


def check_function(value):
    """Refuse what is no function."""
    if not isinstance(value, Function):
        raise InvalidFunction("not a function")


def check_one_curve(one, other):
    """Refuse objects of two curves."""
    if one.curve != other.curve:
        raise InvalidOperation("of two curves")
