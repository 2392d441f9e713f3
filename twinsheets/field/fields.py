"""Fields with finitely many members, and the points of curves over them."""

from twinsheets.base.numbers import MAX_FACTORED, MAX_INTEGER, check_count, check_prime, factors, int_power
from twinsheets.base.numbers import is_power_above, is_within, residue_root
from twinsheets.errors import InvalidCurve, InvalidField, InvalidOperation, InvalidPoly, TooMany
from twinsheets.poly.division import is_square_free
from twinsheets.poly.factors import least_irreducible
from twinsheets.poly.polys import Poly, poly_of
from twinsheets.poly.rows import ONE, row_at, row_negative, row_number, row_power_rest, row_product, row_rest, row_sum

MAX_SIZE = 3000
# The degree of a polynomial that tells a curve.
_MAX_DEGREE = 8


class Field:
    """A field, whose members are the numbers of polynomials; it never changes."""

    def __init__(self, prime, degree):
        check_prime(prime)
        check_count(degree, 1, MAX_INTEGER)
        if is_power_above(prime, degree, MAX_SIZE):
            raise TooMany(MAX_SIZE)
        self.prime = prime
        self.degree = degree
        self.modulus = least_irreducible(prime, degree)
        self.size = int_power(prime, degree)
        self._members = tuple(range(self.size))
        self._rows = tuple([row_at(prime, number) for number in self._members])
        self.maker = least_maker(self.modulus, self.size)
        # Products are told by exponents of the maker: powers by exponents, and back.
        self._powers = powers_of(self.modulus, self.maker, self.size)
        self._logs = {power: at for at, power in enumerate(self._powers)}

    def added(self, one, other):
        """The sum."""
        self._check(one)
        self._check(other)
        return row_number(self.prime, row_sum(self.prime, self._rows[one], self._rows[other]))

    def multiplied(self, one, other):
        """The product."""
        self._check(one)
        self._check(other)
        if one == 0 or other == 0:
            return 0
        return self._power_at(self._logs[one] + self._logs[other])

    def negative(self, one):
        """The opposite."""
        self._check(one)
        return row_number(self.prime, row_negative(self.prime, self._rows[one]))

    def inverse(self, one):
        """The inverse."""
        self._check(one)
        if one == 0:
            raise InvalidOperation("0 has no inverse")
        return self._power_at(-self._logs[one])

    def power(self, one, exponent):
        """The power with an exponent from 0 to 10 ** 12."""
        self._check(one)
        check_count(exponent, 0, MAX_FACTORED)
        if one == 0:
            return 0 if exponent else 1
        return self._power_at(self._logs[one] * exponent)

    def value_of(self, poly, one):
        """The value of a polynomial."""
        if not isinstance(poly, Poly) or poly.prime != self.prime:
            raise InvalidPoly("not a polynomial of the prime of the field")
        self._check(one)
        total = 0
        for entry in poly.entries[::-1]:
            total = self.added(self.multiplied(total, one), entry)
        return total

    def is_square(self, one):
        """Whether it is the product of some member with itself."""
        self._check(one)
        return one == 0 or self._logs[one] % 2 == 0

    def root(self, one):
        """The lesser member with this square, or None."""
        if not self.is_square(one):
            return None
        if one == 0:
            return 0
        root = self._power_at(self._logs[one] // 2)
        return min(root, self.negative(root))

    def orbit(self, one):
        """The member, its p-th power, and so on, each of them once."""
        self._check(one)
        found = [one]
        power = self.power(one, self.prime)
        while power != one:
            found.append(power)
            power = self.power(power, self.prime)
        return tuple(found)

    def least_poly(self, one):
        """The monic polynomial of the least degree with the value 0 there: the product of x less each of the orbit."""
        product = [1]
        for root in self.orbit(one):
            less = self.negative(root)
            scaled = [self.multiplied(less, entry) for entry in product]
            product = [self.added(high, low) for high, low in zip([0] + product, scaled + [0])]
        return poly_of(self.prime, tuple(product))

    def trace(self, one):
        """The sum of the member, its p-th power, and so on, as many as the degree."""
        total = 0
        for power in self._conjugates(one):
            total = self.added(total, power)
        return total

    def norm_of(self, one):
        """The product of the member, its p-th power, and so on, as many as the degree."""
        total = 1
        for power in self._conjugates(one):
            total = self.multiplied(total, power)
        return total

    def __len__(self):
        return len(self._members)

    def __contains__(self, value):
        return is_within(value, 0, self.size - 1)

    def __iter__(self):
        return iter(self._members)

    def __eq__(self, other):
        return isinstance(other, Field) and self.prime == other.prime and self.degree == other.degree

    def __str__(self):
        return f"field of {self.size} elements by {self.modulus}"

    def _check(self, value):
        """Refuse what is no member."""
        if not is_within(value, 0, self.size - 1):
            raise InvalidField("not an element of the field")

    def _power_at(self, exponent):
        """The power of the maker; its exponents come round."""
        return self._powers[exponent % len(self._powers)]

    def _conjugates(self, one):
        """The orbit of a member, as often as it takes to be as many as the degree."""
        orbit = self.orbit(one)
        return orbit * (self.degree // len(orbit))


def least_maker(modulus, size):
    """The least member of a field whose powers are all members but 0."""
    exponents = [(size - 1) // divisor for divisor in factors(size - 1)]
    number = 2
    while not is_maker(modulus, number, exponents):
        number = number + 1
    return number


def is_maker(modulus, number, exponents):
    """Whether none of these powers of a member is 1: its order is no divisor of them."""
    row = row_at(modulus.prime, number)
    return all([row_power_rest(modulus.prime, row, exponent, modulus.entries) != ONE for exponent in exponents])


def powers_of(modulus, maker, size):
    """The tuple of the powers of a maker, beginning with 1."""
    prime = modulus.prime
    factor = row_at(prime, maker)
    row = ONE
    found = []
    for _ in range(size - 1):
        found.append(row_number(prime, row))
        row = row_rest(prime, row_product(prime, row, factor), modulus.entries)
    return tuple(found)


def points_off(f, degree):
    """All points off the rim over the field with a degree, ascending."""
    check_tells_curve(f)
    field = Field(f.prime, degree)
    for x in field:
        root = field.root(field.value_of(f, x))
        if root is not None:
            yield x, root
            if root != 0:
                yield x, field.negative(root)


def points_walked(f, degree):
    """How many points there are over the field with a degree, those at the rim among them."""
    return len(list(points_off(f, degree))) + count_rim(f, degree)


def count_rim(f, degree):
    """How many rim points there are over the field with a degree."""
    if f.degree % 2:
        return 1
    # In a field of even degree each residue is a square.
    return 2 if degree % 2 == 0 or residue_root(f.prime, f.lead) is not None else 0


def check_tells_curve(value):
    """Refuse what is no square-free polynomial of degree 1 to 8."""
    if not isinstance(value, Poly) or not 1 <= value.degree <= _MAX_DEGREE or not is_square_free(value):
        raise InvalidCurve("not a polynomial that tells a curve")
