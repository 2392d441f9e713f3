"""What makes the polynomials of functions short, for all functions that a divisor lets.

A function (top / bottom) * (a + b y) has shorter ones in its least terms if a factor of the bottom
divides a and b. All functions for which one factor does so, and is enough, are a space of their own.
Functions are told by lines here: by the residues times which those of a basis add up to them.
"""

from twinsheets.base.tables import stepped, zero_lines
from twinsheets.curve.spots import spot_degree
from twinsheets.divisor.ideals import let_over, over_factors
from twinsheets.poly.rows import ONE, X, row_power, row_product, row_quotient, row_rest, row_scaled, row_sum


class Shorts:
    """The functions that a table of places lets, by the factors that make them short.

    A polynomial is short if it has at most so many entries.
    """

    def __init__(self, curve, table, let, most):
        top, bottom, basis = let
        self.prime = curve.prime
        self.basis = [told for told in basis if told[0] >= 0]
        self.size = sum([room + 1 for room, _, _ in self.basis])
        self.degree = sum([many * spot_degree(spot) for spot, many in table.items()])
        # Without a factor of this degree no function other than zero is short.
        self.excess = max(len(bottom), len(top)) - most
        self.parts = parts_below(curve.prime, table)
        self._low = most + 1 - len(top)
        self._bounds = {}
        self._columns = {}

    def bounded(self, lines, degree):
        """The functions of a space that are short without a factor of a degree."""
        if degree not in self._bounds:
            columns = high_columns(self.basis, self._low + degree)
            self._bounds[degree] = stepped(self.prime, columns, self.size)
        return zero_lines(self.prime, lines, self._bounds[degree])

    def divided(self, lines, part, many):
        """The functions of a space that a power of a part divides, if the one below does so for all of them."""
        factor, _, _ = part
        if (factor, many) not in self._columns:
            self._columns[factor, many] = part_columns(self.prime, self.basis, part, many)
        return zero_lines(self.prime, lines, self._columns[factor, many])


def parts_below(prime, table):
    """The tuples (factor, many, zeros) for the factors of the bottom, and for how often they are met in the modulus.

    Those that are met are first, and the greater ones ahead: the smaller ones then fill what is left.
    """
    found = []
    for factor, spots in over_factors(table).items():
        common, zeros, _ = let_over(prime, spots)
        if common > 0:
            found.append((zeros == 0, -len(factor), factor, common, zeros))
    return [(factor, common, zeros) for _, _, factor, common, zeros in sorted(found)]


def part_degree(part):
    """The degree of the factor of a part."""
    factor, _, _ = part
    return len(factor) - 1


def part_cost(part, many):
    """How many zeros, counted by degrees, a function has more if a part divides it once more, so often in all."""
    _, _, zeros = part
    return part_degree(part) if many <= zeros else 2 * part_degree(part)


def high_columns(basis, low):
    """The entries of the functions of a basis, in a and in b, for each index from one on."""
    size = max([room + max(len(a), len(b)) for room, a, b in basis] + [0])
    found = []
    for at in range(max(low, 0), size):
        found.append(entry_column([(room, a) for room, a, _ in basis], at))
        found.append(entry_column([(room, b) for room, _, b in basis], at))
    return found


def entry_column(rows, at):
    """The entries at an index of all rows, each of them moved up by 0 to its room."""
    return tuple([row[at - power] if 0 <= at - power < len(row) else 0
                  for room, row in rows for power in range(room + 1)])


def part_columns(prime, basis, part, many):
    """The columns that are 0 for the functions that a power of a part divides, if the one below does so.

    Where the modulus has the power, it divides a if it divides b. Where it does not have the factor, it divides
    both if it divides the factors of both vectors of the basis.
    """
    factor, _, zeros = part
    power, below = row_power(prime, factor, many), row_power(prime, factor, many - 1)
    lines = []
    for at, (room, a, b) in enumerate(basis):
        if zeros == 0:
            rows = [ONE if at == other else () for other in range(len(basis))]
        else:
            rows = [b] if many <= zeros else [a, b]
        rests = [row_rest(prime, row, power) for row in rows]
        for _ in range(room + 1):
            lines.append([entry for row in rests for entry in last_digit(prime, row, below, len(factor) - 1)])
            rests = [row_rest(prime, row_product(prime, X, row), power) for row in rests]
    return [tuple([line[at] for line in lines]) for at in range(len(lines[0]))]


def last_digit(prime, row, below, size):
    """The quotient of a row by a power, with so many entries."""
    told = row_quotient(prime, row, below)
    return told + (0,) * (size - len(told))


def are_short(triples, most):
    """Whether no row of any triple has more than so many entries."""
    return all([len(row) <= most for triple in triples for row in triple])


def line_triple(prime, line, triples):
    """The sum of triples with one row below, each times a residue."""
    first, second, below = (), (), ONE
    for factor, (a, b, c) in zip(line, triples):
        first = row_sum(prime, first, row_scaled(prime, a, factor))
        second = row_sum(prime, second, row_scaled(prime, b, factor))
        below = c
    return first, second, below
