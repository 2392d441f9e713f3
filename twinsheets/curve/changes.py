"""Changes of x and y, which lead a curve and its places to others."""

from twinsheets.base.numbers import check_count, check_prime, int_power, inverse_of, is_within
from twinsheets.curve.curves import Curve, check_curve
from twinsheets.curve.places import point_pair
from twinsheets.curve.spots import RIM, spot_at
from twinsheets.errors import InvalidChange, InvalidOperation, InvalidPlace, TooMany
from twinsheets.poly.polys import poly_of
from twinsheets.poly.rows import ONE, row_product, row_scaled, row_sum, row_value, trimmed

MAX_WALKED = 13
_MAX_GENUS = 3


class Change:
    """A change; it never changes itself."""

    def __init__(self, prime, genus, table, scale):
        check_prime(prime)
        check_count(genus, 0, _MAX_GENUS)
        if not is_table(prime, table):
            raise InvalidChange("not the table of a change")
        if not is_within(scale, 1, prime - 1):
            raise InvalidChange("not the scale of a change")
        first = table[0] if table[0] else table[1]
        inverse = inverse_of(prime, first)
        self.prime = prime
        self.genus = genus
        self.scale = scale * int_power(first, genus + 1) % prime
        self._table = tuple([entry * inverse % prime for entry in table])

    @property
    def table(self):
        """The table of the normal form."""
        return self._table

    def then(self, other):
        """The change that leads where the other one leads what this one has led."""
        check_change(other)
        if self.prime != other.prime or self.genus != other.genus:
            raise InvalidOperation("changes of two primes or of two genera")
        a, b, c, d = self.table
        e, f, g, h = other.table
        table = (a * e + b * g, a * f + b * h, c * e + d * g, c * f + d * h)
        rests = tuple([entry % self.prime for entry in table])
        return Change(self.prime, self.genus, rests, self.scale * other.scale % self.prime)

    def inverse(self):
        """The change that leads back."""
        a, b, c, d = self.table
        table = tuple([entry % self.prime for entry in (d, -b, -c, a)])
        # Both tables together multiply x and 1 by this.
        both = int_power((a * d - b * c) % self.prime, self.genus + 1)
        return Change(self.prime, self.genus, table, inverse_of(self.prime, self.scale * both % self.prime))

    def __eq__(self, other):
        if not isinstance(other, Change) or self.prime != other.prime or self.genus != other.genus:
            return False
        return self.table == other.table and self.scale == other.scale

    def __str__(self):
        a, b, c, d = self.table
        return f"{a} {b} {c} {d}, {self.scale}"


def plain_change(prime, genus):
    """The change that leads each curve to itself."""
    return Change(prime, genus, (1, 0, 0, 1), 1)


def count_changes(prime):
    """How many different changes of a genus there are."""
    check_prime(prime)
    return prime * (prime * prime - 1) * (prime - 1)


def each_change(prime, genus):
    """All different changes, ascending by the pairs of table and scale of their normal forms."""
    check_prime(prime)
    check_count(genus, 0, _MAX_GENUS)
    for table in normal_tables(prime):
        for scale in range(1, prime):
            yield Change(prime, genus, table, scale)


def changed(curve, change):
    """The curve to which a change leads a curve."""
    check_curve(curve)
    check_change(change)
    check_both(curve, change)
    row = led_row(curve.prime, curve.f.entries, 2 * curve.genus + 2, change.table)
    return Curve(poly_of(curve.prime, row_scaled(curve.prime, row, change.scale * change.scale % curve.prime)))


def led(curve, change, place):
    """The place to which a change leads a place of degree 1."""
    check_curve(curve)
    check_change(change)
    if place not in curve:
        raise InvalidPlace("not a place of degree 1 of the curve")
    check_both(curve, change)
    prime = curve.prime
    a, b, c, d = change.table
    x, z, y = weighed(prime, place)
    left, right = (d * x - b * z) % prime, (a * z - c * x) % prime
    top = change.scale * int_power((a * d - b * c) % prime, change.genus + 1) * y
    if right == 0:
        return RIM, top * int_power(inverse_of(prime, left), change.genus + 1) % prime
    inverse = inverse_of(prime, right)
    return spot_at(prime, left * inverse % prime, top * int_power(inverse, change.genus + 1) % prime)


def between(one, other):
    """A change that leads the one curve to the other one, or None."""
    check_curve(one)
    check_curve(other)
    check_walked(one)
    if one.prime != other.prime or one.genus != other.genus:
        return None
    for change in changes_between(one, other):
        return change
    return None


def is_change(one, other, value):
    """Whether the value is a change that leads the one curve to the other one."""
    check_curve(one)
    check_curve(other)
    if not isinstance(value, Change) or value.prime != one.prime or value.genus != one.genus:
        return False
    return changed(one, value) == other


def own_changes(curve):
    """The tuple of the changes that lead a curve to itself."""
    check_curve(curve)
    check_walked(curve)
    return tuple(changes_between(curve, curve))


def check_change(value):
    """Refuse what is no change."""
    if not isinstance(value, Change):
        raise InvalidChange("not a change")


def check_both(curve, change):
    """Refuse a curve and a change of two primes or of two genera."""
    if curve.prime != change.prime or curve.genus != change.genus:
        raise InvalidOperation("a change of another prime or genus than the curve")


def check_walked(curve):
    """Refuse a curve whose prime has too many changes."""
    if curve.prime > MAX_WALKED:
        raise TooMany(MAX_WALKED)


def is_table(prime, value):
    """Whether the value is a tuple of four residues that a change can have."""
    if not isinstance(value, tuple) or len(value) != 4:
        return False
    if not all([is_within(entry, 0, prime - 1) for entry in value]):
        return False
    a, b, c, d = value
    return (a * d - b * c) % prime != 0


def normal_tables(prime):
    """The tables of all changes in the normal form, ascending."""
    for c in range(1, prime):
        for d in range(prime):
            yield 0, 1, c, d
    for b in range(prime):
        for c in range(prime):
            for d in range(prime):
                if (d - b * c) % prime:
                    yield 1, b, c, d


def led_row(prime, row, size, table):
    """The sum of entry * (a x + b) ** i * (c x + d) ** (size - i) over all entries of a row, with their indexes i."""
    a, b, c, d = table
    top, bottom = trimmed((b, a)), trimmed((d, c))
    total, power = (), ONE
    for entry in row[::-1]:
        total = row_sum(prime, row_product(prime, total, top), row_scaled(prime, power, entry))
        power = row_product(prime, power, bottom)
    for _ in range(size - len(row) + 1):
        total = row_product(prime, total, bottom)
    return total


def weighed(prime, spot):
    """The triple (x, z, y) of a place of degree 1: z is 0 at the rim, and 1 elsewhere."""
    first, second = spot
    if first == RIM:
        return 1, 0, second
    x, y = point_pair(prime, spot)
    return x, 1, y


def changes_between(one, other):
    """All changes from a curve to one of the same prime and genus, ascending."""
    prime, size = one.prime, 2 * one.genus + 2
    starts, ends = square_marks(one, size), square_marks(other, size)
    for table in normal_tables(prime):
        if is_fitting(prime, table, starts, ends):
            row = led_row(prime, one.f.entries, size, table)
            for scale in range(1, prime):
                if row_scaled(prime, row, scale * scale % prime) == other.f.entries:
                    yield Change(prime, one.genus, table, scale)


def square_marks(curve, size):
    """The signs of the values of the polynomial at all residues, and behind them at the rim."""
    prime, row = curve.prime, curve.f.entries
    values = [row_value(prime, row, x) for x in range(prime)]
    values.append(row[size] if size < len(row) else 0)
    squares = [root * root % prime for root in range(1, prime)]
    return [0 if value == 0 else 1 if value in squares else -1 for value in values]


def is_fitting(prime, table, starts, ends):
    """Whether a table leads values to ones with equal signs: they are multiplied by squares."""
    a, b, c, d = table
    for x in range(prime):
        if ends[x] != starts[ratio(prime, a * x + b, c * x + d)]:
            return False
    return ends[prime] == starts[ratio(prime, a, c)]


def ratio(prime, top, bottom):
    """The quotient, a residue, or the prime if one divides by 0."""
    rest = bottom % prime
    return prime if rest == 0 else top * inverse_of(prime, rest) % prime
