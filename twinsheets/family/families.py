"""Square-free polynomials, their excesses, and the families that changes make of all curves of a genus."""

from twinsheets.base.numbers import check_count, check_prime, int_power, least_nonsquare
from twinsheets.curve.changes import count_changes
from twinsheets.curve.curves import Curve, check_curve
from twinsheets.errors import InvalidOperation, TooMany
from twinsheets.family.orbits import column_tables, least_scaled, led_by, led_rows
from twinsheets.poly.division import is_row_square_free
from twinsheets.poly.polys import check_poly, poly_of
from twinsheets.poly.rows import row_at, row_number, row_value

MAX_FAMILY = 100000
MAX_FAMILY_DEGREE = 200
_MAX_LISTED = 20
_MAX_COUNTED = 99
_MAX_GENUS = 3
_MAX_PRIME = 13


def count_square_free(prime, degree):
    """How many monic square-free polynomials of a degree there are."""
    check_prime(prime)
    check_count(degree, 0, MAX_FAMILY_DEGREE)
    if degree < 2:
        return int_power(prime, degree)
    return int_power(prime, degree) - int_power(prime, degree - 1)


def square_free_ones(prime, degree):
    """All monic square-free polynomials of a degree, ascending."""
    check_prime(prime)
    check_count(degree, 0, _MAX_LISTED)
    first = int_power(prime, degree)
    for number in range(first, 2 * first):
        row = row_at(prime, number)
        if is_row_square_free(prime, row):
            yield poly_of(prime, row)


def excess_of(poly):
    """The number of pairs of residues with y * y = f(x), less the prime."""
    check_poly(poly)
    if poly.is_zero:
        raise InvalidOperation("zero has no excess")
    prime = poly.prime
    roots = [0 for _ in range(prime)]
    for root in range(prime):
        square = root * root % prime
        roots[square] = roots[square] + 1
    return sum([roots[row_value(prime, poly.entries, x)] for x in range(prime)]) - prime


def excess_sum(prime, degree):
    """The sum of the excesses of all monic square-free polynomials of a degree."""
    check_prime(prime)
    check_count(degree, 1, MAX_FAMILY_DEGREE)
    return 0 if degree % 2 else prime * (1 - prime)


def count_curves(prime, genus):
    """The number of all curves of a genus."""
    check_prime(prime)
    check_count(genus, 0, _MAX_COUNTED)
    if genus == 0:
        return (prime - 1) * prime * prime
    return (prime - 1) * (int_power(prime, 2 * genus + 2) - int_power(prime, 2 * genus))


def family_of(curve):
    """The pair of the head of the family of a curve, and of the number of its own changes."""
    check_curve(curve)
    prime = curve.prime
    if prime > _MAX_PRIME:
        raise TooMany(_MAX_PRIME)
    led = led_rows(prime, curve.genus, curve.f.entries)
    _, head = min([(row_number(prime, row), row) for row in led])
    # Each table that leads up to a square to the curve itself does so with two scales.
    return Curve(poly_of(prime, head)), 2 * led.count(least_scaled(prime, curve.f.entries))


def families(prime, genus):
    """The ascending tuple of the pairs of head and number of own changes of all families of a genus."""
    check_prime(prime)
    check_count(genus, 0, _MAX_GENUS)
    if count_curves(prime, genus) > MAX_FAMILY or count_changes(prime) > MAX_FAMILY:
        raise TooMany(MAX_FAMILY)
    tables = column_tables(prime, genus)
    met, found = {}, []
    for row in head_rows(prime, genus):
        if row not in met and is_row_square_free(prime, row):
            led = [led_by(prime, columns, row) for columns in tables]
            for other in led:
                met[other] = True
            found.append((Curve(poly_of(prime, row)), 2 * led.count(row)))
    return tuple(found)


def mass(prime, genus):
    """The pair of the top and the bottom of the sum of 1 divided by the number of own changes, over all families."""
    check_prime(prime)
    check_count(genus, 0, _MAX_COUNTED)
    return (int_power(prime, 2 * genus - 1), 1) if genus else (prime, prime * prime - 1)


def head_rows(prime, genus):
    """The ascending list of the rows of the degrees for a genus that are the least ones by scales."""
    found = []
    for degree in (2 * genus + 1, 2 * genus + 2):
        size = int_power(prime, degree)
        for lead in (1, least_nonsquare(prime)):
            found.extend([row_at(prime, number) for number in range(lead * size, (lead + 1) * size)])
    return found
