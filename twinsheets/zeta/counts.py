"""The polynomial L of a curve, which tells the numbers of points, places and classes."""

from twinsheets.base.numbers import check_count, int_power, is_power_above
from twinsheets.base.walks import from_sums, sign_sums, sign_total
from twinsheets.curve.curves import check_curve
from twinsheets.errors import TooMany
from twinsheets.field.fields import count_rim
from twinsheets.poly.rows import ONE, row_difference, row_power, row_product, row_sum, trimmed
from twinsheets.poly.signs import sign_sum

MAX_WALKED = 3000
MAX_FAR = 200
_MAX_SUMMED = 20
_MAX_OVER = 20


def by_points(curve):
    """L, by the points over the fields with p to p ** g members."""
    check_walked(curve)
    sums = []
    for degree in range(1, curve.genus + 1):
        off = sign_total(curve.prime, curve.f.entries, degree)
        # There are p ** degree + off + rim points.
        sums.append(off + count_rim(curve.f, degree) - 1)
    return turned_about(curve.prime, from_sums(sums, curve.genus))


def by_signs(curve):
    """L, by sums of signs."""
    check_walked(curve)
    sums = sign_sums(curve.prime, curve.f.entries, curve.genus)
    if curve.kind == "one":
        return turned_about(curve.prime, sums)
    # S is L times 1 - T, or 1 + T.
    low, last = [], 0
    for entry in sums:
        last = entry + last if curve.kind == "two" else entry - last
        low.append(last)
    return turned_about(curve.prime, low)


def sum_of_signs(curve, degree):
    """The sum of the signs for all monic polynomials of a degree."""
    check_curve(curve)
    check_count(degree, 0, _MAX_SUMMED)
    return sign_sum(curve.f, degree)


def table_of(curve):
    """The table whose determinant is L modulo p."""
    check_curve(curve)
    prime = curve.prime
    sizes = range(1, curve.genus + 1)
    power = row_power(prime, curve.f.entries, (prime - 1) // 2)
    return tuple([tuple([entry_at(power, line * prime - column) for column in sizes]) for line in sizes])


def by_table(curve):
    """The entries 0 to g of L modulo p, by the table."""
    table = table_of(curve)
    prime = curve.prime
    lines = []
    for line, entries in enumerate(table):
        lines.append([trimmed((int(line == column), -entry % prime)) for column, entry in enumerate(entries)])
    found = determinant(prime, lines)
    return tuple([entry_at(found, at) for at in range(curve.genus + 1)])


def l_of(curve):
    """L."""
    return by_points(curve)


def class_number(curve):
    """The number of classes, L(1)."""
    return sum(l_of(curve))


def points_over(curve, degree):
    """How many points there are over the field with p ** degree members."""
    check_curve(curve)
    check_count(degree, 1, MAX_FAR)
    return points_told(curve, degree)[degree]


def places_of(curve, degree):
    """How many places of a degree there are."""
    check_curve(curve)
    check_count(degree, 1, MAX_FAR)
    points = points_told(curve, degree)
    many = {}
    for size in range(1, degree + 1):
        if degree % size == 0:
            lesser = sum([part * count for part, count in many.items() if size % part == 0])
            many[size] = (points[size] - lesser) // size
    return many[degree]


def l_over(curve, degree):
    """The L over the field with p ** degree members."""
    check_curve(curve)
    check_count(degree, 1, _MAX_OVER)
    sums = power_sums(l_of(curve), degree * curve.genus)
    picked = [-sums[at * degree] for at in range(1, curve.genus + 1)]
    return turned_about(int_power(curve.prime, degree), from_sums(picked, curve.genus))


def check_walked(curve):
    """Refuse what is no curve, and curves of too great a field."""
    check_curve(curve)
    if not is_counted(curve):
        raise TooMany(MAX_WALKED)


def is_counted(curve):
    """Whether the fields of a curve are small enough for its classes and points to be counted."""
    return not is_power_above(curve.prime, curve.genus, MAX_WALKED)


def turned_about(size, low):
    """The tuple with these entries 0 to g, the further ones told by them, for the field of this size."""
    genus = len(low) - 1
    high = [int_power(size, genus - at) * low[at] for at in range(genus)]
    return tuple(low + high[::-1])


def power_sums(entries, most):
    """The list of the sums of the powers of the reciprocal roots, for the exponents up to this one."""
    sums = [len(entries) - 1]
    for at in range(1, most + 1):
        total = -at * entry_at(entries, at)
        for back in range(1, min(at, len(entries))):
            total = total - sums[at - back] * entries[back]
        sums.append(total)
    return sums


def points_told(curve, most):
    """The list of the numbers of points over the fields of the degrees up to this one; nothing is told by the first."""
    sums = power_sums(l_of(curve), most)
    return [int_power(curve.prime, at) + 1 - total for at, total in enumerate(sums)]


def entry_at(row, at):
    """The entry of a row at an index, 0 behind its end."""
    return row[at] if at < len(row) else 0


def determinant(prime, lines):
    """The determinant of a table of rows, by its first line."""
    if not lines:
        return ONE
    total = ()
    for at, entry in enumerate(lines[0]):
        lesser = [line[:at] + line[at + 1:] for line in lines[1:]]
        term = row_product(prime, entry, determinant(prime, lesser))
        total = row_difference(prime, total, term) if at % 2 else row_sum(prime, total, term)
    return total
