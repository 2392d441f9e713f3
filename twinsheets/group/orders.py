"""The orders of triples, and logarithms."""

from twinsheets.base.numbers import MAX_FACTORED, factors, int_power, is_within
from twinsheets.divisor.functions import check_one_curve
from twinsheets.errors import TooMany
from twinsheets.group.classes import class_opposite, class_sum, class_times, zero_class
from twinsheets.group.triples import Triple, check_triple, rows_of, triple_with
from twinsheets.zeta.counts import class_number

MAX_ORDER = 10 ** 6


def order_of(triple):
    """The least integer of at least 1 by which the triple is multiplied to 0."""
    check_triple(triple)
    return class_order(triple.curve, rows_of(triple), bounded_count(triple.curve, MAX_ORDER))


def order_paper(triple):
    """The order, with a triple that is not 0 for each prime that divides it."""
    order = order_of(triple)
    curve, rows = triple.curve, rows_of(triple)
    found = [(prime, triple_with(curve, class_times(curve, rows, order // prime))) for prime in factors(order)]
    return order, tuple(found)


def is_order_paper(triple, value):
    """Whether the value is the paper of the order."""
    check_triple(triple)
    if not isinstance(value, tuple) or len(value) != 2:
        return False
    order, told = value
    if not is_within(order, 1, MAX_FACTORED) or not isinstance(told, tuple):
        return False
    curve, rows = triple.curve, rows_of(triple)
    if class_times(curve, rows, order) != zero_class(curve):
        return False
    primes = list(factors(order))
    return len(told) == len(primes) and all([is_part(triple, order, prime, part) for prime, part in zip(primes, told)])


def logarithm(base, other):
    """The least integer of at least 0 by which the base is multiplied to the other triple, or None."""
    check_triple(base)
    check_triple(other)
    check_one_curve(base, other)
    curve = base.curve
    order = class_order(curve, rows_of(base), bounded_count(curve, MAX_ORDER))
    if class_times(curve, rows_of(other), order) != zero_class(curve):
        return None
    found, product = 0, 1
    for prime, many in factors(order).items():
        power = int_power(prime, many)
        one, two = [class_times(curve, rows_of(triple), order // power) for triple in (base, other)]
        told = power_logarithm(curve, one, two, prime, many)
        if told is None:
            return None
        # The rests by the powers of all primes tell the logarithm.
        while found % power != told:
            found = found + product
        product = product * power
    return found


def bounded_count(curve, limit):
    """The number of classes, if it is not above a limit."""
    count = class_number(curve)
    if count > limit:
        raise TooMany(limit)
    return count


def is_part(triple, order, prime, value):
    """Whether the value is the pair of a prime that divides the order and of a triple that is not 0."""
    if not isinstance(value, tuple) or len(value) != 2:
        return False
    told, other = value
    if not is_within(told, prime, prime) or not isinstance(other, Triple) or other.curve != triple.curve:
        return False
    curve = triple.curve
    part = class_times(curve, rows_of(triple), order // prime)
    return rows_of(other) == part and part != zero_class(curve)


def class_order(curve, rows, multiple):
    """The order of a class that so many times is 0."""
    zero, order = zero_class(curve), 1
    for prime, many in factors(multiple).items():
        rest = class_times(curve, rows, multiple // int_power(prime, many))
        while rest != zero:
            rest = class_times(curve, rest, prime)
            order = order * prime
    return order


def power_logarithm(curve, base, other, prime, many):
    """The logarithm for a base whose order is this power of a prime, or None."""
    found, power = 0, int_power(prime, many - 1)
    top = class_times(curve, base, power)
    # What is left of the other class is told by one digit after the other, the lowest first.
    weight = 1
    for _ in range(many):
        digit = small_logarithm(curve, top, class_times(curve, other, power), prime)
        if digit is None:
            return None
        found = found + digit * weight
        other = class_sum(curve, other, class_times(curve, base, -digit * weight))
        weight, power = weight * prime, power // prime
    return found


def small_logarithm(curve, base, other, order):
    """The logarithm for a base of a prime order, or None."""
    size = 1
    while size * size < order:
        size = size + 1
    steps, power = {}, zero_class(curve)
    for at in range(size):
        steps[power] = at
        power = class_sum(curve, power, base)
    back = class_opposite(curve, power)
    for at in range(size):
        if other in steps:
            return at * size + steps[other]
        other = class_sum(curve, other, back)
    return None
