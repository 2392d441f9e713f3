"""Classes of divisors of degree 0 as triples (u, v, n) of two rows and an integer.

All curves are of the kind "one" or "two" here, and nothing is checked.
"""

from twinsheets.base.numbers import int_power
from twinsheets.divisor.ideals import ideal_of, ideal_product, lifted_root
from twinsheets.divisor.lattices import reduced
from twinsheets.poly.division import row_joined
from twinsheets.poly.factors import factor_rows, multiplicity
from twinsheets.poly.rows import ONE, row_at, row_difference, row_negative, row_number, row_power, row_product
from twinsheets.poly.rows import row_rest
from twinsheets.poly.signs import factor_roots, row_sign


def halves_of(genus):
    """The pair of half of the genus, rounded up, and rounded down."""
    return genus - genus // 2, genus // 2


def zero_class(curve):
    """The triple of the divisor without places."""
    up, _ = halves_of(curve.genus)
    return ONE, (), (up if curve.kind == "two" else 0)


def is_class(curve, u, v, n):
    """Whether two rows and an integer tell a triple of a curve."""
    degree = len(u) - 1
    if not u or u[-1] != 1 or degree > curve.genus or len(v) > degree:
        return False
    if not 0 <= n <= (curve.genus - degree if curve.kind == "two" else 0):
        return False
    return not row_rest(curve.prime, row_difference(curve.prime, curve.f.entries, row_product(curve.prime, v, v)), u)


def rims_of(curve, triple):
    """The integers of the divisor of a triple at the places of the rim."""
    u, _, n = triple
    degree = len(u) - 1
    if curve.kind == "one":
        return (-degree,)
    up, down = halves_of(curve.genus)
    return n - up, curve.genus - degree - n - down


def table_of_class(curve, triple):
    """The dict from the places to the integers of the divisor of a triple."""
    prime, (u, v, _) = curve.prime, triple
    table = {rim: many for rim, many in zip(curve.rims, rims_of(curve, triple))}
    for factor in factor_rows(prime, u):
        table[(factor, row_rest(prime, v, factor))] = multiplicity(prime, u, factor)
    return table


def reduced_class(curve, u, v, rims):
    """The triple for the zeros of (u, v) and integers at the rim, and the rows a, b of a short vector.

    The function u / (a + b y) has the divisor of the one less that of the other.
    """
    bounds = (1,)
    if curve.kind == "two":
        degree = len(u) - 1
        bounds = tuple([many + part + degree for many, part in zip(rims, halves_of(curve.genus))])
    w, root, n, a, b = reduced(curve, u, row_negative(curve.prime, v), bounds)
    return (w, root, n), a, b


def told_sum(curve, one, other):
    """The triple of the sum of two, and the rows a, b, c of a function with the difference of the divisors."""
    prime = curve.prime
    both, u, v = ideal_product(prime, curve.f.entries, one[:2], other[:2])
    # The factor that is taken out has its poles at the rim.
    further = len(both) - 1
    rims = [first + second + further for first, second in zip(rims_of(curve, one), rims_of(curve, other))]
    triple, a, b = reduced_class(curve, u, v, rims)
    # 1 / (a + b y) is a - b y over the norm, u times the row of the triple.
    top = row_product(prime, both, a), row_negative(prime, row_product(prime, both, b))
    return triple, (top[0], top[1], triple[0])


def class_sum(curve, one, other):
    """The triple of the sum of two."""
    triple, _ = told_sum(curve, one, other)
    return triple


def class_opposite(curve, triple):
    """The triple of the opposite divisor."""
    u, v, _ = triple
    less = row_negative(curve.prime, v)
    if curve.kind == "one":
        return u, less, 0
    found, _, _ = reduced_class(curve, u, less, rims_of(curve, triple)[::-1])
    return found


def class_times(curve, triple, number):
    """The triple of so many times the divisor."""
    total = zero_class(curve)
    if number < 0:
        triple, number = class_opposite(curve, triple), -number
    while number:
        if number % 2:
            total = class_sum(curve, total, triple)
        number = number // 2
        if number:
            triple = class_sum(curve, triple, triple)
    return total


def class_told(curve, table):
    """The triple that is alike with a dict of degree 0, and the rows a, b, c of a function with the difference."""
    prime = curve.prime
    top, bottom, modulus, root = ideal_of(curve, table)
    less = len(bottom) - len(top)
    bounds = (1,)
    if curve.kind == "two":
        halves = halves_of(curve.genus)
        bounds = tuple([table.get(rim, 0) + part + less for rim, part in zip(curve.rims, halves)])
    u, v, n, a, b = reduced(curve, modulus, root, bounds)
    below = row_product(prime, top, row_product(prime, modulus, u))
    return (u, v, n), (row_product(prime, bottom, a), row_negative(prime, row_product(prime, bottom, b)), below)


def root_pairs(curve):
    """All pairs (u, v), ascending: u is monic, of a degree up to the genus, v lesser, and u divides f - v * v."""
    prime, f = curve.prime, curve.f.entries
    for degree in range(curve.genus + 1):
        first = int_power(prime, degree)
        for number in range(first, 2 * first):
            u = row_at(prime, number)
            for v in all_roots(prime, f, u):
                yield u, v


def all_roots(prime, f, u):
    """The ascending list of the roots of f modulo a monic row."""
    joined, product = [()], ONE
    for factor in factor_rows(prime, u):
        many = multiplicity(prime, u, factor)
        told = row_sign(prime, f, factor)
        # The square of a factor does not divide f less a square that the factor divides.
        if told == -1 or told == 0 and many > 1:
            return []
        rests = factor_roots(prime, row_rest(prime, f, factor), factor)
        if told:
            rests = [lifted_root(prime, f, factor, rest, many) for rest in rests]
        power = row_power(prime, factor, many)
        joined = [row_joined(prime, row, product, rest, power) for row in joined for rest in rests]
        product = row_product(prime, product, power)
    return [row for _, row in sorted([(row_number(prime, row), row) for row in joined])]
