"""The kinds of the group of classes, and triples that make it."""

from twinsheets.base.numbers import factors, int_power, is_within
from twinsheets.curve.curves import check_curve
from twinsheets.group.classes import class_sum, class_times, root_pairs, zero_class
from twinsheets.group.orders import bounded_count
from twinsheets.group.triples import Triple, check_grouped, room_at_rim, rows_of, triple_with
from twinsheets.poly.factors import degree_products
from twinsheets.poly.rows import row_number

MAX_GROUP = 2000


def kinds(curve):
    """The tuple of the kinds, ascending."""
    count = group_count(curve)
    return tuple([order for _, order in class_makers(curve, count)])


def makers(curve):
    """Triples that make the group, with their orders."""
    count = group_count(curve)
    return tuple([(triple_with(curve, rows), order) for rows, order in class_makers(curve, count)])


def is_makers(curve, value):
    """Whether the value is a tuple of such pairs."""
    count = group_count(curve)
    if not isinstance(value, tuple) or not all([is_maker_pair(curve, count, pair) for pair in value]):
        return False
    product, last = 1, 1
    for _, order in value:
        if order % last:
            return False
        product, last = product * order, order
    if product != count:
        return False
    pairs = [(rows_of(triple), order) for triple, order in value]
    return all([class_times(curve, rows, order) == zero_class(curve) for rows, order in pairs]) and all(
        [are_tops_independent(curve, pairs, prime) for prime in factors(count)])


def orders_met(curve):
    """The dict from the orders of all triples to how many have each."""
    told = kinds(curve)
    found = {}
    top = told[-1] if told else 1
    for order in range(1, top + 1):
        if top % order == 0:
            zeros = 1
            for kind in told:
                zeros = zeros * shared_divisor(order, kind)
            # Less those whose order is a lesser divisor.
            found[order] = zeros - sum([many for less, many in found.items() if order % less == 0])
    return found


def halves(curve):
    """The tuple of all triples that are 0 when doubled, ascending."""
    count = group_count(curve)
    found = [zero_class(curve)]
    if count % 2 == 0:
        for rows, order in part_makers(curve, count, 2, factors(count)[2]):
            half = class_times(curve, rows, order // 2)
            found = found + [class_sum(curve, one, half) for one in found]
    prime = curve.prime
    ranked = sorted([(row_number(prime, u), row_number(prime, v), n, (u, v, n)) for u, v, n in found])
    return tuple([triple_with(curve, rows) for _, _, _, rows in ranked])


def count_halves(curve):
    """How many classes are 0 when doubled."""
    check_curve(curve)
    products = degree_products(curve.prime, curve.f.entries, curve.f.degree)
    many = sum([(len(product) - 1) // degree for degree, product in products.items()])
    if curve.kind == "one":
        return int_power(2, many - 1)
    if any([degree % 2 == 1 for degree in products]):
        return int_power(2, many - 2)
    return int_power(2, many - 1 + curve.genus % 2)


def group_count(curve):
    """The number of classes of a curve with triples, if it is not too great."""
    check_grouped(curve)
    return bounded_count(curve, MAX_GROUP)


def shared_divisor(one, other):
    """The greatest common divisor of two numbers."""
    while other:
        one, other = other, one % other
    return one


def is_maker_pair(curve, count, value):
    """Whether the value is a pair of a triple of the curve and of an integer above 1."""
    if not isinstance(value, tuple) or len(value) != 2:
        return False
    triple, order = value
    return isinstance(triple, Triple) and triple.curve == curve and is_within(order, 2, count)


def are_tops_independent(curve, pairs, prime):
    """Whether, of pairs of rows and an order, those multiplied to the order of a prime are independent."""
    tops = [class_times(curve, rows, order // prime) for rows, order in pairs if order % prime == 0]
    span = {zero_class(curve): True}
    for at, top in enumerate(tops):
        if top in span:
            return False
        # Behind the last one nothing is asked.
        if at < len(tops) - 1:
            span = widened(curve, span, top, prime)
    return True


def widened(curve, group, rows, size):
    """The dict of a group and of so many multiples of a class added to it."""
    found, step = {one: True for one in group}, list(group)
    for _ in range(size - 1):
        step = [class_sum(curve, one, rows) for one in step]
        for one in step:
            found[one] = True
    return found


def class_makers(curve, count):
    """The ascending list of pairs of rows and order that make the group."""
    found = []
    for prime, many in factors(count).items():
        # The greatest order of each prime goes to the last maker, and so on down.
        for at, (rows, order) in enumerate(part_makers(curve, count, prime, many)):
            if at < len(found):
                held, product = found[at]
                found[at] = class_sum(curve, held, rows), product * order
            else:
                found.append((rows, order))
    return found[::-1]


def part_makers(curve, count, prime, many):
    """The list of pairs of rows and order, descending, that make the classes whose order is a power of a prime."""
    size, zero = int_power(prime, many), zero_class(curve)
    if many == 1:
        return [(first_multiple(curve, count // prime), prime)]
    group = part_group(curve, count // size, prime, size)
    multiples = {rows: class_times(curve, rows, prime) for rows in group}
    ranked = sorted([(-part_order(multiples, rows, zero, prime), rows) for rows in group])
    found, span, product = [], {zero: True}, 1
    for less, rows in ranked:
        if product == size:
            return found
        top = class_times(curve, rows, -less // prime)
        if top not in span:
            found.append((rows, -less))
            span = widened(curve, span, top, prime)
            product = product * -less
    return found


def first_multiple(curve, number):
    """The first class, so many times taken, that is not 0."""
    for u, v in root_pairs(curve):
        for n in range(room_at_rim(curve, u)):
            rows = class_times(curve, (u, v, n), number)
            if rows != zero_class(curve):
                return rows
    return zero_class(curve)


def part_group(curve, rest, prime, size):
    """The dict of all classes whose order is a power of a prime: those that are multiplied by the rest of the count."""
    group = {zero_class(curve): True}
    for u, v in root_pairs(curve):
        for n in range(room_at_rim(curve, u)):
            rows = class_times(curve, (u, v, n), rest)
            while rows not in group:
                # The least power of the prime that leads into the group tells how many multiples are new.
                step = rows
                many = 1
                while step not in group:
                    step, many = class_times(curve, step, prime), many * prime
                group = widened(curve, group, rows, many)
            if len(group) == size:
                return group
    return group


def part_order(multiples, rows, zero, prime):
    """The order of a class, by the dict of multiples with a prime."""
    order = 1
    while rows != zero:
        rows, order = multiples[rows], order * prime
    return order
