"""Tables of residues: lists of tuples of one length, over the residues of a prime."""

from twinsheets.base.numbers import int_power, inverse_of


def combined(prime, one, factor, other):
    """The first tuple and a residue times the second one, entry by entry."""
    return tuple([(first + factor * second) % prime for first, second in zip(one, other)])


def scaled(prime, line, factor):
    """A tuple multiplied by a residue."""
    return tuple([entry * factor % prime for entry in line])


def first_index(line):
    """The index of the first entry other than 0, the length if there is none."""
    for at, entry in enumerate(line):
        if entry:
            return at
    return len(line)


def stepped(prime, lines, width):
    """The lines in the form of steps, as far as so many first entries of each tell.

    The first entry of each step is 1, further to the right than that of the one ahead, and 0 in the others.
    """
    steps, rest = [], list(lines)
    for column in range(width):
        chosen = [at for at, line in enumerate(rest) if line[column]]
        if chosen:
            at = chosen[0]
            top = scaled(prime, rest[at], inverse_of(prime, rest[at][column]))
            others = rest[:at] + rest[at + 1:]
            rest = [combined(prime, line, -line[column], top) for line in others]
            steps = [combined(prime, line, -line[column], top) for line in steps] + [top]
    return steps


def zero_lines(prime, lines, columns):
    """The lines that tell all sums of some lines whose product with each column is 0."""
    if not columns:
        return lines
    rest = []
    for line in lines:
        values = [product_of(prime, line, column) for column in columns]
        rest.append(tuple(values) + line)
    for at in range(len(columns)):
        chosen = [line for line in rest if line[at]]
        if chosen:
            top = scaled(prime, chosen[0], inverse_of(prime, chosen[0][at]))
            others = [combined(prime, line, -line[at], top) for line in chosen[1:]]
            rest = others + [line for line in rest if not line[at]]
    return [line[len(columns):] for line in rest]


def unit_lines(size):
    """The lines of a size with an entry 1, and 0 elsewhere."""
    return [tuple([int(at == other) for other in range(size)]) for at in range(size)]


def turned_steps(prime, steps, width):
    """The steps of all tuples of a width whose product with each step is 0."""
    heads = [first_index(line) for line in steps]
    found = []
    for column in range(width):
        if column not in heads:
            # Each step tells the entry at its head by those at the other indexes.
            entries = {head: -line[column] % prime for head, line in zip(heads, steps)}
            entries[column] = 1
            found.append(tuple([entries.get(at, 0) for at in range(width)]))
    return stepped(prime, found, width)


def weight_of(line):
    """The number of entries other than 0."""
    return len([entry for entry in line if entry])


def product_of(prime, one, other):
    """The sum of the products of entries, a residue."""
    return sum([first * second for first, second in zip(one, other)]) % prime


def all_sums(prime, steps, width):
    """All sums of steps, each times a residue, ascending; each is made when it is asked for."""
    for number in range(int_power(prime, len(steps))):
        # The last step counts least: most often only its factor is another one than before.
        if number % prime:
            total = combined(prime, total, 1, steps[-1])
        else:
            total = sum_at(prime, steps, width, number)
        yield total


def sum_at(prime, steps, width, number):
    """The sum of steps times the digits of a number, those of the last step being the lowest ones."""
    total = (0,) * width
    for line in steps[::-1]:
        total = combined(prime, total, number % prime, line)
        number = number // prime
    return total
