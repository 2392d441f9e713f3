"""Rows: polynomials as bare tuples of entries, the last one not 0.

All rows of one call belong to one prime. Nothing is checked here, and no row is too long.
"""

from twinsheets.base.numbers import inverse_of

ONE = (1,)
X = (0, 1)
# From so many entries on, one product of great integers is faster than many of small ones.
LONG = 24
# From so many entries of quotient and divisor on, a few such products are faster than many steps.
LONG_DIVIDED = 80


def trimmed(entries):
    """The row of some entries: without the zeros at their end."""
    size = len(entries)
    while size and entries[size - 1] == 0:
        size = size - 1
    return tuple(entries[:size])


def row_number(prime, row):
    """The number of a row."""
    number = 0
    for entry in row[::-1]:
        number = number * prime + entry
    return number


def row_at(prime, number):
    """The row with a number."""
    entries = []
    while number:
        entries.append(number % prime)
        number = number // prime
    return tuple(entries)


def row_sum(prime, one, other):
    """The sum of two rows."""
    if len(one) < len(other):
        one, other = other, one
    low = [(first + second) % prime for first, second in zip(one, other)]
    return trimmed(low + list(one[len(other):]))


def row_negative(prime, row):
    """The row with the opposite entries."""
    return tuple([-entry % prime for entry in row])


def row_difference(prime, one, other):
    """The first row less the second one."""
    return row_sum(prime, one, row_negative(prime, other))


def row_scaled(prime, row, residue):
    """A row multiplied by a residue."""
    return trimmed([entry * residue % prime for entry in row])


def row_monic(prime, row):
    """A row, other than zero, divided by its lead."""
    return row_scaled(prime, row, inverse_of(prime, row[-1]))


def row_product(prime, one, other):
    """The product of two rows."""
    if not one or not other:
        return ()
    if min(len(one), len(other)) < LONG:
        return short_product(prime, one, other)
    return long_product(prime, one, other)


def short_product(prime, one, other):
    """The product of two rows other than zero, entry by entry."""
    sums = [0 for _ in range(len(one) + len(other) - 1)]
    for low, entry in enumerate(one):
        if entry:
            for high, factor in enumerate(other):
                sums[low + high] = sums[low + high] + entry * factor
    return tuple([entry % prime for entry in sums])


def long_product(prime, one, other):
    """The product of two rows other than zero, by one product of integers.

    In the base of so many digits no entry of the product runs into the next one.
    """
    top = (prime - 1) * (prime - 1) * min(len(one), len(other))
    width = len(f"{top:x}")
    number = packed(prime, one, width) * packed(prime, other, width)
    size = len(one) + len(other) - 1
    digits = f"{number:x}".zfill(width * size)
    last = width * (size - 1)
    return tuple([int(digits[at:at + width], 16) % prime for at in range(last, -1, -width)])


def packed(prime, row, width):
    """The integer whose groups of so many digits in the base 16 are the entries."""
    groups = [f"{entry:x}".zfill(width) for entry in range(prime)]
    return int("".join([groups[entry] for entry in row[::-1]]), 16)


def row_divided(prime, one, other):
    """The pair of quotient and remainder; the second row is not zero."""
    if min(len(one) - len(other), len(other)) < LONG_DIVIDED:
        return short_divided(prime, one, other)
    return long_divided(prime, one, other)


def short_divided(prime, one, other):
    """The pair of quotient and remainder, one entry of the quotient after the other."""
    size = len(other)
    inverse = inverse_of(prime, other[-1])
    rest = list(one)
    quotient = [0 for _ in range(max(0, len(one) - size + 1))]
    for low in range(len(one) - size, -1, -1):
        factor = rest[low + size - 1] * inverse % prime
        if factor:
            quotient[low] = factor
            upper = rest[low:low + size]
            rest[low:low + size] = [(entry - factor * part) % prime for entry, part in zip(upper, other)]
    return trimmed(quotient), trimmed(rest[:size - 1])


def long_divided(prime, one, other):
    """The pair of quotient and remainder, if the first row is no shorter than the second one.

    The quotient, told backwards, begins like the first row, told backwards, times a reciprocal.
    """
    size = len(one) - len(other) + 1
    begin = row_product(prime, trimmed(one[::-1][:size]), row_reciprocal(prime, other[::-1], size))[:size]
    quotient = (0,) * (size - len(begin)) + begin[::-1]
    return quotient, row_difference(prime, one, row_product(prime, quotient, other))


def row_reciprocal(prime, row, size):
    """The row of so many entries whose product with a row begins with 1 and as many zeros as fit.

    Each step doubles what is known of it. The first entry of the row is not 0.
    """
    found = (inverse_of(prime, row[0]),)
    known = 1
    while known < size:
        known = min(2 * known, size)
        met = row_product(prime, trimmed(row[:known]), found)
        missing = row_difference(prime, (2,), trimmed(met[:known]))
        found = trimmed(row_product(prime, found, missing)[:known])
    return found


def row_quotient(prime, one, other):
    """The quotient of two rows."""
    quotient, _ = row_divided(prime, one, other)
    return quotient


def row_rest(prime, one, other):
    """The remainder of the first row by the second one."""
    if len(one) < len(other):
        return one
    _, rest = row_divided(prime, one, other)
    return rest


def row_value(prime, row, residue):
    """The value of a row at a residue."""
    total = 0
    for entry in row[::-1]:
        total = (total * residue + entry) % prime
    return total


def row_derivative(prime, row):
    """The derivative of a row."""
    return trimmed([at * entry % prime for at, entry in enumerate(row)][1:])


def row_power(prime, row, exponent):
    """The power of a row."""
    power = ONE
    while exponent:
        if exponent % 2:
            power = row_product(prime, power, row)
        exponent = exponent // 2
        if exponent:
            row = row_product(prime, row, row)
    return power


def row_power_rest(prime, row, exponent, modulus):
    """The remainder of the power of a row."""
    power = row_rest(prime, ONE, modulus)
    row = row_rest(prime, row, modulus)
    while exponent:
        if exponent % 2:
            power = row_rest(prime, row_product(prime, power, row), modulus)
        row = row_rest(prime, row_product(prime, row, row), modulus)
        exponent = exponent // 2
    return power


def row_composed(prime, row, other):
    """The first row with the second one in the place of x.

    Neighbours are joined, then neighbours of these, so that long products are few.
    """
    layer = [trimmed((entry,)) for entry in row]
    power = other
    while len(layer) > 1:
        if len(layer) % 2:
            layer.append(())
        joined = []
        for at in range(0, len(layer), 2):
            joined.append(row_sum(prime, layer[at], row_product(prime, layer[at + 1], power)))
        layer = joined
        if len(layer) > 1:
            power = row_product(prime, power, power)
    return layer[0] if layer else ()


def row_common(prime, one, other):
    """The greatest common divisor, monic, or zero for two zeros."""
    while other:
        one, other = other, row_rest(prime, one, other)
    return row_monic(prime, one) if one else ()


def row_cofactors(prime, one, other):
    """The greatest common divisor, and the factors of both rows whose products add up to it."""
    # All along, one and other are the sums of the products of both rows with these factors.
    ones, others = (ONE, ()), ((), ONE)
    while other:
        quotient, rest = row_divided(prime, one, other)
        less = [row_product(prime, quotient, factor) for factor in others]
        rests = tuple([row_difference(prime, factor, part) for factor, part in zip(ones, less)])
        one, other = other, rest
        ones, others = others, rests
    if not one:
        return (), (), ()
    inverse = inverse_of(prime, one[-1])
    first, second = ones
    return row_monic(prime, one), row_scaled(prime, first, inverse), row_scaled(prime, second, inverse)
