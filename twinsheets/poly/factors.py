"""The irreducible factors of polynomials."""

from twinsheets.base.numbers import check_count, check_prime, int_power
from twinsheets.errors import InvalidOperation, TooMany
from twinsheets.poly.polys import Poly, check_poly, poly_of
from twinsheets.poly.rows import ONE, X, row_at, row_common, row_derivative, row_difference, row_divided, row_monic
from twinsheets.poly.rows import row_number, row_power_rest, row_product, row_quotient, row_rest, row_sum, row_value
from twinsheets.poly.rows import trimmed

MAX_PARTED = 60
MAX_LISTED = 20
_MAX_TIMES = 200
_MAX_COUNTED = 200
# Up to this degree a table of powers is worth its making.
_MAX_TABLE = 300


def parts(poly):
    """The pair of the leading entry and of the pairs of a factor and its multiplicity."""
    check_parted(poly)
    prime, row = poly.prime, poly.entries
    found = [(poly_of(prime, factor), multiplicity(prime, row, factor)) for factor in factor_rows(prime, row)]
    return poly.lead, tuple(found)


def is_irreducible(poly):
    """Whether a polynomial is irreducible."""
    check_parted(poly)
    return is_row_irreducible(poly.prime, poly.entries)


def roots(poly):
    """The ascending tuple of the residues at which the value is 0."""
    check_parted(poly)
    return root_residues(poly.prime, poly.entries)


def raised(poly, times):
    """The rest of x ** (p ** times) by a polynomial."""
    check_poly(poly)
    check_count(times, 0, _MAX_TIMES)
    check_parted(poly)
    check_not_constant(poly)
    modulus = row_monic(poly.prime, poly.entries)
    table = frobenius_table(poly.prime, modulus)
    power = row_rest(poly.prime, X, modulus)
    for _ in range(times):
        power = frobenius(poly.prime, table, power)
    return poly_of(poly.prime, power)


def by_degrees(poly):
    """The dict from the degrees of the factors to the product of all factors of each degree, taken once."""
    check_parted(poly)
    products = degree_products(poly.prime, poly.entries, poly.degree)
    return {degree: poly_of(poly.prime, row) for degree, row in products.items()}


def bar_of(poly):
    """A monic divisor of lesser degree that is not constant, or None."""
    check_parted(poly)
    for factor in factor_rows(poly.prime, poly.entries):
        if len(factor) < len(poly.entries):
            return poly_of(poly.prime, factor)
    return None


def is_bar(poly, value):
    """Whether the value is such a divisor."""
    check_parted(poly)
    if not isinstance(value, Poly) or value.prime != poly.prime or not value.is_monic:
        return False
    return 1 <= value.degree < poly.degree and not row_rest(poly.prime, poly.entries, value.entries)


def discriminant(poly):
    """The discriminant, a residue."""
    check_parted(poly)
    check_not_constant(poly)
    prime, degree = poly.prime, poly.degree
    row = row_monic(prime, poly.entries)
    total = root_product(prime, row, row_derivative(prime, row))
    # Each difference of two roots stands in the product with both signs.
    if degree * (degree - 1) // 2 % 2:
        total = -total
    return total * int_power(poly.lead, 2 * degree - 2) % prime


def count_irreducible(prime, degree):
    """How many monic irreducible polynomials of a degree there are."""
    check_prime(prime)
    check_count(degree, 1, _MAX_COUNTED)
    counts = {}
    for size in range(1, degree + 1):
        if degree % size == 0:
            lesser = sum([part * many for part, many in counts.items() if size % part == 0])
            counts[size] = (int_power(prime, size) - lesser) // size
    return counts[degree]


def irreducibles(prime, degree):
    """All monic irreducible polynomials of a degree, ascending."""
    check_prime(prime)
    check_count(degree, 1, MAX_LISTED)
    first = int_power(prime, degree)
    for number in range(first, 2 * first):
        row = row_at(prime, number)
        if is_row_irreducible(prime, row):
            yield poly_of(prime, row)


def least_irreducible(prime, degree):
    """The first monic irreducible polynomial of a degree."""
    for poly in irreducibles(prime, degree):
        return poly


def check_parted(poly):
    """Refuse what is no polynomial, zero, and polynomials of too great a degree."""
    check_poly(poly)
    if poly.is_zero:
        raise InvalidOperation("zero has no factors")
    if poly.degree > MAX_PARTED:
        raise TooMany(MAX_PARTED)


def check_not_constant(poly):
    """Refuse a polynomial of degree 0."""
    if poly.degree == 0:
        raise InvalidOperation("a constant polynomial")


def root_residues(prime, row):
    """The residues at which a row has the value 0."""
    return tuple([residue for residue in range(prime) if row_value(prime, row, residue) == 0])


def root_product(prime, row, other):
    """The product of the values of a row at all roots of a monic one.

    The monic row and the remainder of the other one change places, step by step.
    """
    total = 1
    while len(row) > 1:
        rest = row_rest(prime, other, row)
        if not rest:
            return 0
        total = total * int_power(rest[-1], len(row) - 1) % prime
        if (len(row) - 1) * (len(rest) - 1) % 2:
            total = -total
        row, other = row_monic(prime, rest), row
    return total % prime


def frobenius_table(prime, modulus):
    """The rests of x ** (p * i) by a monic modulus, for all i below its degree."""
    table = []
    rest = [1] + [0] * (len(modulus) - 2)
    for _ in range(len(modulus) - 1):
        table.append(rest)
        for _ in range(prime):
            top = rest[-1]
            rest = [(entry - top * part) % prime for entry, part in zip([0] + rest[:-1], modulus)]
    return table


def frobenius(prime, table, row):
    """The rest of the p-th power of a row, told by a table: the power of a sum is that of its terms."""
    sums = [0] * len(table)
    for entry, rest in zip(row, table):
        if entry:
            sums = [total + entry * part for total, part in zip(sums, rest)]
    return trimmed([total % prime for total in sums])


def is_row_irreducible(prime, row):
    """Whether a row, other than zero, is irreducible."""
    degree = len(row) - 1
    # Most rows that are not irreducible have a root, which is told soon.
    if degree < 2 or root_residues(prime, row):
        return degree == 1
    row = row_monic(prime, row)
    if degree > _MAX_TABLE:
        return is_long_irreducible(prime, row)
    table = frobenius_table(prime, row)
    power = X
    for _ in range(degree // 2):
        power = frobenius(prime, table, power)
        if row_common(prime, row, row_difference(prime, power, X)) != ONE:
            return False
    return True


def is_long_irreducible(prime, row):
    """Whether a monic row of a great degree is irreducible: without a table, and with few common divisors."""
    half = (len(row) - 1) // 2
    power, product = X, ONE
    for degree in range(1, half + 1):
        power = row_power_rest(prime, power, prime, row)
        product = row_rest(prime, row_product(prime, product, row_difference(prime, power, X)), row)
        # Small factors are told soon, those of greater degrees many at once.
        if degree < 4 or degree % 16 == 0 or degree == half:
            if row_common(prime, row, product) != ONE:
                return False
    return True


def degree_products(prime, row, most):
    """The dict from the degrees of the factors of a row, other than zero, to the product of those of each degree.

    Factors of greater degrees than this one are not looked for; one can be told all the same.
    """
    found = {}
    row = row_monic(prime, row)
    table = frobenius_table(prime, row)
    power = row_rest(prime, X, row)
    degree = 0
    while len(row) > 1 and degree < most:
        degree = degree + 1
        # All factors of lesser degree are gone: two further ones do not fit.
        if len(row) - 1 < 2 * degree:
            found[len(row) - 1] = row
            return found
        power = frobenius(prime, table, power)
        product = row_common(prime, row, row_difference(prime, power, X))
        if product != ONE:
            found[degree] = product
            row = row_without(prime, row, product)
    return found


def row_without(prime, row, product):
    """A row divided by all factors of a row that divides it, as often as they divide it."""
    while product != ONE:
        row = row_quotient(prime, row, product)
        product = row_common(prime, row, product)
    return row


def row_radical(prime, row):
    """The product of all factors of a row other than zero, each of them once."""
    radical = ONE
    row = row_monic(prime, row)
    while len(row) > 1:
        shared = row_common(prime, row, row_derivative(prime, row))
        single = row_quotient(prime, row, shared)
        radical = row_product(prime, radical, single)
        # Behind these factors a polynomial of x ** p is left, which is the p-th power of one of x.
        row = row_without(prime, shared, row_common(prime, shared, single))[::prime]
    return radical


def equal_parts(prime, product, degree):
    """The factors of a monic row that is a product of different factors of one degree.

    The trace of a row is a residue modulo each factor. Any two factors have unlike ones
    for some power of x below twice the degree.
    """
    pieces = [product]
    if len(product) - 1 == degree:
        return pieces
    table = frobenius_table(prime, product)
    power = ONE
    for _ in range(2 * degree - 1):
        power = row_rest(prime, (0,) + power, product)
        trace = trace_row(prime, table, power, degree)
        pieces = [part for piece in pieces for part in pieces_by(prime, piece, trace, degree)]
        if len(pieces) * degree == len(product) - 1:
            return pieces
    return pieces


def trace_row(prime, table, row, degree):
    """The sum of a row and of its powers with p, p * p and so on, as many as the degree."""
    total = row
    for _ in range(degree - 1):
        row = frobenius(prime, table, row)
        total = row_sum(prime, total, row)
    return total


def pieces_by(prime, piece, trace, degree):
    """A product of factors of one degree, split by the residues that a trace leaves by them."""
    if len(piece) - 1 == degree:
        return [piece]
    trace = row_rest(prime, trace, piece)
    found = []
    for residue in range(prime):
        part = row_common(prime, piece, row_difference(prime, trace, trimmed((residue,))))
        if part != ONE:
            found.append(part)
    return found


def factor_rows(prime, row):
    """The ascending list of the monic irreducible factors of a row other than zero."""
    found = []
    for degree, product in degree_products(prime, row, len(row)).items():
        found.extend(equal_parts(prime, product, degree))
    return [factor for _, factor in sorted([(row_number(prime, factor), factor) for factor in found])]


def multiplicity(prime, row, factor):
    """How often a factor divides a row other than zero."""
    many = 0
    quotient, rest = row_divided(prime, row, factor)
    while not rest:
        many = many + 1
        quotient, rest = row_divided(prime, quotient, factor)
    return many
