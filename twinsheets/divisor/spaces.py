"""Spaces of functions with bounded poles."""

from twinsheets.base.numbers import inverse_of
from twinsheets.curve.curves import check_curve
from twinsheets.curve.places import check_place
from twinsheets.curve.spots import RIM, spot_degree
from twinsheets.divisor.divisors import Divisor, summed
from twinsheets.divisor.functions import Function, check_one_curve, function_of, triple_of_function
from twinsheets.divisor.ideals import ideal_of
from twinsheets.divisor.lattices import let_size, let_triples
from twinsheets.divisor.quotients import rim_order
from twinsheets.divisor.searches import short_triples
from twinsheets.errors import InvalidDivisor, InvalidPlace, TooMany
from twinsheets.poly.rows import row_difference, row_divided, row_product, row_rest, row_scaled, row_sum, trimmed

MAX_SIZE = 60


def space_of(divisor):
    """A basis of the space of a divisor."""
    check_sized(divisor)
    triples = short_triples(divisor.curve, divisor.table)
    return tuple([function_of(divisor.curve, triple) for triple in triples])


def size_of(divisor):
    """The size of the space."""
    check_divisor(divisor)
    return table_size(divisor.curve, divisor.table)


def is_in_space(divisor, value):
    """Whether the value is a function of the curve that is in the space."""
    check_divisor(divisor)
    if not isinstance(value, Function) or value.curve != divisor.curve:
        return False
    return is_let(divisor.curve, divisor.table, triple_of_function(value))


def is_basis(divisor, value):
    """Whether the value is a basis of the space."""
    check_sized(divisor)
    if not isinstance(value, tuple) or len(value) != size_of(divisor):
        return False
    if not all([isinstance(part, Function) and part.curve == divisor.curve for part in value]):
        return False
    curve, triples = divisor.curve, [triple_of_function(part) for part in value]
    ideal = ideal_of(curve, divisor.table)
    pairs = [let_pair(curve.prime, ideal, triple) for triple in triples]
    if None in pairs or not all([is_rim_let(curve, divisor.table, triple) for triple in triples]):
        return False
    return are_independent(curve.prime, pairs)


def canonical(curve):
    """The canonical divisor."""
    check_curve(curve)
    many = 2 * curve.genus - 2 if curve.kind == "one" else curve.genus - 1
    return Divisor(curve, {rim: many for rim in curve.rims})


def function_between(one, other):
    """A function whose divisor is the difference of two, or None."""
    check_divisors(one, other)
    return function_with(one.curve, summed(one.table, other.table, -1))


def is_between(one, other, value):
    """Whether the value is a function whose divisor is the difference."""
    check_divisors(one, other)
    return is_divided_as(one.curve, summed(one.table, other.table, -1), value)


def are_alike(one, other):
    """Whether the difference is the divisor of a function."""
    check_divisors(one, other)
    table = summed(one.table, other.table, -1)
    return table_degree(table) == 0 and table_size(one.curve, table) == 1


def gaps(curve, place):
    """The orders of poles at a place of degree 1 that no function has alone."""
    check_place(curve, place)
    if spot_degree(place) != 1:
        raise InvalidPlace("not a place of degree 1")
    # Where x less its value has a zero, or x a pole, of order 2, the even orders are met.
    step = 2 if place[1] == () or curve.kind == "one" and place[0] == RIM else 1
    return tuple(range(1, step * curve.genus + 1, step))


def check_divisor(value):
    """Refuse what is no divisor."""
    if not isinstance(value, Divisor):
        raise InvalidDivisor("not a divisor")


def check_divisors(one, other):
    """Refuse what are no divisors of one curve."""
    check_divisor(one)
    check_divisor(other)
    check_one_curve(one, other)


def check_sized(divisor):
    """Refuse what is no divisor, and one whose space is too great."""
    if size_of(divisor) > MAX_SIZE:
        raise TooMany(MAX_SIZE)


def table_degree(table):
    """The degree of a dict from places to integers."""
    return sum([many * spot_degree(spot) for spot, many in table.items()])


def table_size(curve, table):
    """The size of the space of a dict from places to integers."""
    degree = table_degree(table)
    if degree < 0:
        return 0
    if degree > 2 * curve.genus - 2:
        return degree + 1 - curve.genus
    return let_size(curve, table)


def function_with(curve, table):
    """A function whose orders are those of a table, or None."""
    if table_degree(table) != 0:
        return None
    triples = let_triples(curve, {spot: -many for spot, many in table.items()})
    return function_of(curve, triples[0]) if triples else None


def is_divided_as(curve, table, value):
    """Whether the value is a function of the curve whose orders are those of a table."""
    if not isinstance(value, Function) or value.curve != curve or value.is_zero:
        return False
    # All orders together are 0: none is greater where none is lesser.
    opposite = {spot: -many for spot, many in table.items()}
    return table_degree(table) == 0 and is_let(curve, opposite, triple_of_function(value))


def is_let(curve, table, triple):
    """Whether the orders of a triple in its least terms are at least minus the integers of a table."""
    if let_pair(curve.prime, ideal_of(curve, table), triple) is None:
        return False
    return is_rim_let(curve, table, triple)


def let_pair(prime, ideal, triple):
    """The pair of rows a, b by which a triple is told as (top / bottom) * (a + b y), or None if it is not let."""
    top, bottom, modulus, root = ideal
    a, b, c = triple
    below = row_product(prime, top, c)
    first, rest = row_divided(prime, row_product(prime, a, bottom), below)
    second, further = row_divided(prime, row_product(prime, b, bottom), below)
    if rest or further:
        return None
    met = row_sum(prime, first, row_product(prime, second, root))
    return None if row_rest(prime, met, modulus) else (first, second)


def is_rim_let(curve, table, triple):
    """Whether the orders of a triple at the rim are at least minus the integers of a table."""
    a, b, _ = triple
    if not a and not b:
        return True
    return all([rim_order(curve, triple, rim[1]) >= -table.get(rim, 0) for rim in curve.rims])


def are_independent(prime, pairs):
    """Whether no sum of pairs of rows, each times a residue, is zero but the plain one."""
    found = {}
    for one, other in pairs:
        row = woven(one, other)
        while row and len(row) in found:
            held = found[len(row)]
            factor = row[-1] * inverse_of(prime, held[-1]) % prime
            row = row_difference(prime, row, row_scaled(prime, held, factor))
        if not row:
            return False
        found[len(row)] = row
    return True


def woven(one, other):
    """The row with the entries of two rows by turns."""
    size = max(len(one), len(other))
    first, second = one + (0,) * (size - len(one)), other + (0,) * (size - len(other))
    return trimmed([entry for pair in zip(first, second) for entry in pair])
