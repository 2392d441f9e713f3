"""Tables of residues: lists of tuples of one length, over the residues of a prime."""

from twinsheets.base.numbers import inverse_of


def combined(prime, one, factor, other):
    """The first tuple and a residue times the second one, entry by entry."""
    return tuple([(first + factor * second) % prime for first, second in zip(one, other)])


def scaled(prime, line, factor):
    """A tuple multiplied by a residue."""
    return tuple([entry * factor % prime for entry in line])


def first_index(line):
    """The index of the first entry other than 0, the length if there is none."""
    for at, entry in enumerate(line):
        if entry:
            return at
    return len(line)


def stepped(prime, lines, width):
    """The lines in the form of steps, as far as so many first entries of each tell.

    The first entry of each step is 1, further to the right than that of the one ahead, and 0 in the others.
    """
    steps, rest = [], list(lines)
    for column in range(width):
        chosen = [at for at, line in enumerate(rest) if line[column]]
        if chosen:
            at = chosen[0]
            top = scaled(prime, rest[at], inverse_of(prime, rest[at][column]))
            others = rest[:at] + rest[at + 1:]
            rest = [combined(prime, line, -line[column], top) for line in others]
            steps = [combined(prime, line, -line[column], top) for line in steps] + [top]
    return steps


def turned_steps(prime, steps, width):
    """The steps of all tuples of a width whose product with each step is 0."""
    heads = [first_index(line) for line in steps]
    found = []
    for column in range(width):
        if column not in heads:
            # Each step tells the entry at its head by those at the other indexes.
            entries = {head: -line[column] % prime for head, line in zip(heads, steps)}
            entries[column] = 1
            found.append(tuple([entries.get(at, 0) for at in range(width)]))
    return stepped(prime, found, width)


def weight_of(line):
    """The number of entries other than 0."""
    return len([entry for entry in line if entry])


def product_of(prime, one, other):
    """The sum of the products of entries, a residue."""
    return sum([first * second for first, second in zip(one, other)]) % prime


def all_sums(prime, steps, width):
    """All sums of steps, each times a residue, ascending."""
    found = [(0,) * width]
    # The first step counts most: with the last ones first, each list stays ascending.
    for line in steps[::-1]:
        found = [combined(prime, word, factor, line) for factor in range(prime) for word in found]
    return found
