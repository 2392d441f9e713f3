"""Triples: one for each class of divisors of degree 0, on curves of the kinds "one" and "two"."""

from twinsheets.base.numbers import MAX_INTEGER, check_count, is_integer
from twinsheets.curve.curves import check_curve
from twinsheets.divisor.divisors import divisor_with, summed
from twinsheets.divisor.functions import check_one_curve, function_of
from twinsheets.divisor.spaces import check_divisor, is_divided_as
from twinsheets.errors import InvalidOperation, InvalidTriple, TooMany
from twinsheets.group.classes import class_opposite, class_sum, class_times, class_told, is_class, root_pairs
from twinsheets.group.classes import table_of_class, told_sum, zero_class
from twinsheets.poly.polys import Poly, poly_of
from twinsheets.zeta.counts import class_number, is_counted

MAX_TRIPLES = 2000


class Triple:
    """A triple; it never changes."""

    def __init__(self, curve, u, v, n=0):
        check_grouped(curve)
        if not are_told(curve, u, v, n):
            raise InvalidTriple("not a triple of the curve")
        self.curve = curve
        self.u = u
        self.v = v
        self.n = n

    def divisor(self):
        """The divisor."""
        return divisor_with(self.curve, table_of_class(self.curve, rows_of(self)))

    def plus(self, other):
        """The triple of the sum of both divisors."""
        check_triples(self, other)
        return triple_with(self.curve, class_sum(self.curve, rows_of(self), rows_of(other)))

    def minus(self, other):
        """The triple of the difference of both divisors."""
        check_triples(self, other)
        less = class_opposite(self.curve, rows_of(other))
        return triple_with(self.curve, class_sum(self.curve, rows_of(self), less))

    def opposite(self):
        """The triple of the opposite divisor."""
        return triple_with(self.curve, class_opposite(self.curve, rows_of(self)))

    def times(self, number):
        """The triple of the divisor multiplied by an integer."""
        check_count(number, -MAX_INTEGER, MAX_INTEGER)
        return triple_with(self.curve, class_times(self.curve, rows_of(self), number))

    def __eq__(self, other):
        if not isinstance(other, Triple) or self.curve != other.curve:
            return False
        return self.u == other.u and self.v == other.v and self.n == other.n

    def __str__(self):
        return f"({self.u}, {self.v}, {self.n})"


def is_triple(curve, value):
    """Whether the value is a tuple of two polynomials and an integer that tell a triple."""
    check_grouped(curve)
    if not isinstance(value, tuple) or len(value) != 3:
        return False
    u, v, n = value
    return are_told(curve, u, v, n)


def zero_triple(curve):
    """The triple of the divisor without places."""
    check_grouped(curve)
    return triple_with(curve, zero_class(curve))


def triple_of(divisor):
    """A paper for a divisor of degree 0: the triple that is alike with it, and a function with the difference."""
    check_level(divisor)
    curve = divisor.curve
    triple, function = class_told(curve, divisor.table)
    return triple_with(curve, triple), function_of(curve, function)


def is_paper(divisor, value):
    """Whether the value is a paper for the divisor."""
    check_level(divisor)
    if not isinstance(value, tuple) or len(value) != 2:
        return False
    triple, function = value
    curve = divisor.curve
    if not isinstance(triple, Triple) or triple.curve != curve:
        return False
    return is_divided_as(curve, summed(divisor.table, table_of_class(curve, rows_of(triple)), -1), function)


def sum_told(one, other):
    """A paper for the sum of the divisors of two triples."""
    check_triples(one, other)
    triple, function = told_sum(one.curve, rows_of(one), rows_of(other))
    return triple_with(one.curve, triple), function_of(one.curve, function)


def all_triples(curve):
    """All triples of the curve, ascending."""
    check_grouped(curve)
    if is_class_number_above(curve, MAX_TRIPLES):
        raise TooMany(MAX_TRIPLES)
    for u, v in root_pairs(curve):
        for n in range(room_at_rim(curve, u)):
            yield triple_with(curve, (u, v, n))


def check_grouped(curve):
    """Refuse what is no curve, and curves of the kind "none"."""
    check_curve(curve)
    if curve.kind == "none":
        raise InvalidOperation("a curve of the kind none")


def check_triple(value):
    """Refuse what is no triple."""
    if not isinstance(value, Triple):
        raise InvalidTriple("not a triple")


def check_triples(one, other):
    """Refuse what are no triples of one curve."""
    check_triple(one)
    check_triple(other)
    check_one_curve(one, other)


def check_level(divisor):
    """Refuse what is no divisor of degree 0 of a curve with triples."""
    check_divisor(divisor)
    check_grouped(divisor.curve)
    if divisor.degree != 0:
        raise InvalidOperation("a divisor of another degree than 0")


def are_told(curve, u, v, n):
    """Whether three values are two polynomials and an integer that tell a triple."""
    if not isinstance(u, Poly) or not isinstance(v, Poly) or not is_integer(n):
        return False
    return u.prime == curve.prime == v.prime and is_class(curve, u.entries, v.entries, n)


def rows_of(triple):
    """The two rows and the integer of a triple."""
    return triple.u.entries, triple.v.entries, triple.n


def triple_with(curve, rows):
    """The triple of two rows and an integer that the package worked out."""
    u, v, n = rows
    return Triple(curve, poly_of(curve.prime, u), poly_of(curve.prime, v), n)


def room_at_rim(curve, u):
    """How many integers n there are for a row u."""
    return curve.genus - len(u) + 2 if curve.kind == "two" else 1


def is_class_number_above(curve, limit):
    """Whether there are more classes than a limit, also where the class number is not told."""
    if is_counted(curve):
        return class_number(curve) > limit
    many = 0
    for u, _ in root_pairs(curve):
        many = many + room_at_rim(curve, u)
        if many > limit:
            return True
    return False
