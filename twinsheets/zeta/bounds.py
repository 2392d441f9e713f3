"""What the polynomial L of a curve is bounded by."""

from twinsheets.base.numbers import check_prime, int_power, is_integer
from twinsheets.errors import InvalidPaper


def sums_row(prime, value):
    """The row of sums of a tuple."""
    check_prime(prime)
    if not is_turning(prime, value):
        raise InvalidPaper("not a tuple that could be an L")
    return row_of_sums(prime, value)


def are_bounded(prime, value):
    """Whether the value is such a tuple, and all roots of its row of sums are real, with squares of at most 4 p."""
    check_prime(prime)
    if not is_turning(prime, value):
        return False
    row = row_of_sums(prime, value)
    if not has_real_roots(row):
        return False
    # The monic polynomial whose roots have the other sign.
    opposite = [entry if (len(row) - at) % 2 else -entry for at, entry in enumerate(row)]
    return is_below(prime, row) and is_below(prime, opposite)


def is_turning(prime, value):
    """Whether the value is a tuple of integers, 2 g + 1 of them, that begins with 1 and can be turned about."""
    if not isinstance(value, tuple) or len(value) not in (1, 3, 5, 7):
        return False
    if not all([is_integer(entry) for entry in value]) or value[0] != 1:
        return False
    genus = len(value) // 2
    return all([value[2 * genus - at] == int_power(prime, genus - at) * value[at] for at in range(genus)])


def row_of_sums(prime, value):
    """The row of sums of what surely is such a tuple.

    Told backwards and divided by T ** g, it is the sum of its entries g - k, each times
    T ** k + (p / T) ** k, which is a polynomial in T + p / T.
    """
    genus = len(value) // 2
    row = [value[genus]] + [0 for _ in range(genus)]
    for power in range(1, genus + 1):
        for at, entry in enumerate(power_sum(prime, power)):
            row[at] = row[at] + value[genus - power] * entry
    return tuple(row)


def power_sum(prime, power):
    """The entries of the polynomial in T + p / T that is T ** power + (p / T) ** power."""
    before, found = [2], [0, 1]
    for _ in range(power - 1):
        shifted = [0] + found
        less = before + [0, 0]
        before, found = found, [entry - prime * part for entry, part in zip(shifted, less)]
    return found


def has_real_roots(row):
    """Whether all roots of a monic polynomial of degree at most 3 are real."""
    if len(row) == 3:
        c, b, _ = row
        return b * b - 4 * c >= 0
    if len(row) == 4:
        d, c, b, _ = row
        return b * b * c * c - 4 * c * c * c - 4 * b * b * b * d - 27 * d * d + 18 * b * c * d >= 0
    return True


def is_below(prime, row):
    """Whether all roots are at most m, the root of 4 p, for a monic polynomial with real roots.

    They are just if no coefficient of its powers of T - m is below 0. A number r + s m is
    told here by the pair of r and s.
    """
    pairs = [(entry, 0) for entry in row]
    told = []
    while pairs:
        # The value at m is the rest, the other pairs are the quotient, of a division by T - m.
        found = []
        whole, part = 0, 0
        for first, second in pairs[::-1]:
            whole, part = first + 4 * prime * part, second + whole
            found.append((whole, part))
        told.append(is_positive_pair(prime, whole, part))
        pairs = found[:-1][::-1]
    return all(told)


def is_positive_pair(prime, whole, part):
    """Whether r + s m is at least 0."""
    if whole >= 0 and part >= 0:
        return True
    if whole < 0 and part < 0:
        return False
    left, right = whole * whole, 4 * prime * part * part
    return left >= right if whole >= 0 else right >= left
