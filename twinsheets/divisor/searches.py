"""A search for short functions in a space, through the factors that make functions short."""

from twinsheets.base.numbers import inverse_of
from twinsheets.base.tables import combined, first_index, product_of, scaled, unit_lines
from twinsheets.divisor.lattices import basis_triples, let_basis
from twinsheets.divisor.shorts import Shorts, are_short, line_triple, part_cost, part_degree
from twinsheets.poly.polys import MAX_ENTRIES

# So many entries are gone through in a search, if it takes so many; a line counts as some more than it has.
MAX_SPENT = 200 * 10 ** 6
_LINE = 64
# So many steps without a new function make a search begin anew, with another part first.
FIRST_LIMIT = 200


class Search:
    """A search for short functions, all told by lines.

    A function is new if its product with a mark, a line too, is not 0. Each new one leaves a mark less,
    those whose products with it are 0; without marks the search is over. Zeros are how many zeros a
    function can have beside those that the table asks for, counted by degrees.
    """

    def __init__(self, shorts, marks, zeros):
        self._shorts = shorts
        self._marks = marks
        self._zeros = zeros
        self._parts = shorts.parts
        self._tails = []
        self._gains = {}
        self._met = {}
        self._tried = 0
        self._limit = FIRST_LIMIT
        self._spent = 0
        self._is_cut = True
        self.found = []

    def through(self, lines):
        """The new short functions of a space.

        In the order of the parts all factors can be gone through. Where this takes long, it begins anew with the
        next part first, and with more patience later on: the functions are mostly found soon in another order.
        """
        parts, first = self._shorts.parts, 0
        while self._marks and self._is_cut and self._spent <= MAX_SPENT:
            self._parts = parts[first:] + parts[:first]
            self._tails = tails_of(self._parts, self._zeros)
            self._gains = {}
            self._tried = 0
            self._is_cut = False
            self.walk(lines, 0, 0, 0, self._zeros)
            first = first + 1
            if first >= len(parts):
                first, self._limit = 0, 4 * self._limit
        return self.found

    def gain(self, at, many, zeros):
        """The greatest degree by which the parts from one on, which is there so often, go into some zeros."""
        if many == 0:
            return self._tails[at][zeros]
        if (at, many) not in self._gains:
            self._gains[at, many] = gains_with(self._parts[at], many, self._tails[at + 1])
        return self._gains[at, many][zeros]

    def walk(self, lines, at, many, degree, zeros):
        """Search in the functions that a factor of a degree divides, further by the parts from one on.

        That part is in the factor so often, and so many zeros are left.
        """
        shorts = self._shorts
        lines = self.bounded(lines, degree + self.gain(at, many, zeros))
        if self.are_known(lines):
            return
        if len(lines) == 1:
            self.try_whole(lines)
            return
        if degree >= shorts.excess:
            for line in self.bounded(lines, degree):
                self.tell(line)
        for further in range(at, len(self._parts)):
            if self._is_cut or self.are_known(lines):
                return
            self.step(lines, further, many + 1 if further == at else 1, degree, zeros)

    def step(self, lines, at, many, degree, zeros):
        """Search in what a part divides once more, so often in all, if that can be enough."""
        part = self._parts[at]
        _, most, _ = part
        less = zeros - part_cost(part, many)
        degree = degree + part_degree(part)
        if many > most or less < 0 or degree + self.gain(at, many, less) < self._shorts.excess:
            return
        self._tried = self._tried + 1
        self._is_cut = self._tried > self._limit or self._spent > MAX_SPENT
        if not self._is_cut:
            self.walk(self.divided(lines, part, many), at, many, degree, less)

    def try_whole(self, lines):
        """Try a single function, up to a residue, with all parts that divide it."""
        line = lines[0]
        line = scaled(self._shorts.prime, line, inverse_of(self._shorts.prime, line[first_index(line)]))
        if line in self._met:
            return
        self._met[line] = True
        degree, zeros = 0, self._zeros
        for part in self._parts:
            _, most, _ = part
            many = 1
            while zeros > 0 and many <= most and self.divided(lines, part, many):
                zeros = zeros - part_cost(part, many)
                degree = degree + part_degree(part)
                many = many + 1
        if self.bounded(lines, degree):
            self.tell(line)

    def bounded(self, lines, degree):
        """The functions of a space that are short without a factor of a degree."""
        if degree < self._shorts.excess:
            return []
        return self._shorts.bounded(lines, degree)

    def divided(self, lines, part, many):
        """The functions of a space that a part divides once more, so often in all."""
        self._spent = self._spent + _LINE + len(lines) * self._shorts.size
        return self._shorts.divided(lines, part, many)

    def are_known(self, lines):
        """Whether the products of all lines with all marks are 0."""
        for line in lines:
            for mark in self._marks:
                if product_of(self._shorts.prime, line, mark):
                    return False
        return True

    def tell(self, line):
        """Keep a line if it is new, and of the marks those whose product with it is 0."""
        prime = self._shorts.prime
        values = [product_of(prime, line, mark) for mark in self._marks]
        chosen = [at for at, value in enumerate(values) if value]
        if chosen:
            first = chosen[0]
            top = scaled(prime, self._marks[first], inverse_of(prime, values[first]))
            marks = [combined(prime, mark, -value, top) for mark, value in zip(self._marks, values)]
            self._marks = marks[:first] + marks[first + 1:]
            self._tried = 0
            self.found.append(line)


def tails_of(parts, zeros):
    """For each part, and behind the last one, the gains of the parts from it on: see gains_with."""
    found = [[0 for _ in range(zeros + 1)]]
    for part in parts[::-1]:
        found.append(gains_with(part, 0, found[-1]))
    return found[::-1]


def gains_with(part, many, rest):
    """The greatest degrees of what can still be divided by a part and those behind it, for 0, 1 and more zeros.

    The part is there so often already; rest are the degrees for those behind it.
    """
    _, most, _ = part
    found, cost, degree = rest, 0, 0
    # No factor has a greater degree than the zeros that it takes.
    best = list(range(len(rest)))
    while found != best and many < most and cost < len(rest):
        many = many + 1
        cost = cost + part_cost(part, many)
        degree = degree + part_degree(part)
        further = [degree + gain for gain in rest[:max(0, len(rest) - cost)]]
        found = found[:cost] + [max(one, other) for one, other in zip(found[cost:], further)]
    return found


def short_triples(curve, table):
    """The rows (a, b, c) of a basis of the space of a table, one without long polynomials if there is such a one."""
    let = let_basis(curve, table)
    triples = basis_triples(curve.prime, let)
    if are_short(triples, MAX_ENTRIES):
        return triples
    size = len(triples)
    shorts = Shorts(curve, table, let, MAX_ENTRIES)
    lines = Search(shorts, unit_lines(size), shorts.degree).through(unit_lines(size))
    return [line_triple(curve.prime, line, triples) for line in lines] if len(lines) == size else triples


def short_line(shorts, columns, idle, word, line):
    """The line of a short function with the word of a line, by the values of the basis, or that line if there is none.

    Idle are the lines of the functions whose word has zeros alone.
    """
    prime, head = shorts.prime, first_index(word)
    # At each place where the word has a 0, a zero is spent.
    zeros = shorts.degree - len([entry for entry in word if entry == 0])
    found = Search(shorts, [columns[head]], zeros).through(idle + [line])
    if not found:
        return line
    return scaled(prime, found[0], word[head] * inverse_of(prime, product_of(prime, found[0], columns[head])))
