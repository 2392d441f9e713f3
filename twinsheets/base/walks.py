"""Sums of signs over the members of a field, without the sums and products of the field itself.

The powers of a maker of the field are told by a sequence of residues that comes round only
behind all of them: each power by so many neighbours in the sequence as the degree of the field.
"""

from twinsheets.base.numbers import int_power

# For each prime, and each degree of a field with at most 3000 members, the entries r by which the
# sequence goes on: behind its last d residues comes the sum of r[0] times the first of them, and so on.
RULES = {
    3: ((2,), (1, 1), (2, 1, 0), (1, 1, 0, 0), (2, 1, 0, 0, 0), (1, 1, 0, 0, 0, 0), (2, 0, 1, 0, 0, 0, 0)),
    5: ((2,), (3, 1), (2, 1, 0), (2, 1, 1, 0)),
    7: ((3,), (4, 1), (5, 1, 0), (4, 1, 1, 0)),
    11: ((2,), (3, 1), (7, 1, 0)),
    13: ((2,), (11, 1), (2, 0, 1)),
    17: ((3,), (7, 1)),
    19: ((2,), (5, 1)),
    23: ((5,), (4, 1)),
    29: ((2,), (15, 1)),
    31: ((3,), (7, 1)),
}


def sign_total(prime, row, degree):
    """The sum over the field of 1 where the value of a row is a square other than 0, and of -1 where it is none."""
    # So wide that no entry of a sum of powers, each times a residue, runs into the next one.
    width = ((prime - 1) * (prime - 1) * len(row)).bit_length()
    signs, powers = walked(prime, degree, width)
    steps = len(powers)
    terms = [(at, entry) for at, entry in enumerate(row) if entry]
    # The value at 0, and one of each orbit: the value at a p-th power is a square just if that at the member is.
    values = [(powers[0] * row[0] if row else 0, 1)]
    for start, size in orbits(prime, steps):
        values.append((sum([entry * powers[start * at % steps] for at, entry in terms]), size))
    mask = (1 << width) - 1
    digits = [(at * width, int_power(prime, at)) for at in range(degree)]
    total = 0
    for packed, size in values:
        number = sum([(packed >> shift & mask) % prime * weight for shift, weight in digits])
        total = total + signs[number] * size
    return total


def walked(prime, degree, width):
    """The signs of all members, each told by the number of its residues, and the powers of the maker, packed."""
    rule = [(at, factor) for at, factor in enumerate(RULES[prime][degree - 1]) if factor]
    size = int_power(prime, degree)
    top, shift = size // prime, (degree - 1) * width
    signs, powers = [0 for _ in range(size)], []
    held = [0 for _ in range(degree - 1)] + [1]
    number, packed, told = top, 1 << shift, 1
    for _ in range(size - 1):
        # The even powers are the squares.
        signs[number] = told
        told = -told
        powers.append(packed)
        further = sum([factor * held[at] for at, factor in rule]) % prime
        held = held[1:] + [further]
        number = number // prime + further * top
        packed = (packed >> width) + (further << shift)
    return signs, powers


def orbits(prime, steps):
    """The pairs of the first exponent and the size of each orbit, if exponents are multiplied by the prime."""
    seen = [False for _ in range(steps)]
    found = []
    for start in range(steps):
        if not seen[start]:
            size, at = 0, start
            while not seen[at]:
                seen[at] = True
                size = size + 1
                at = at * prime % steps
            found.append((start, size))
    return found


def sign_sums(prime, row, most):
    """The sums of the signs of a row for all monic polynomials of the degrees 0 to this one."""
    totals = [sign_total(prime, row, degree) for degree in range(1, most + 1)]
    return from_sums(totals, most)


def from_sums(sums, most):
    """The first entries of a series: each one times its index is the sum of the ones ahead times these sums."""
    entries = [1]
    for at in range(1, most + 1):
        total = sum([sums[back - 1] * entries[at - back] for back in range(1, at + 1)])
        entries.append(total // at)
    return entries
