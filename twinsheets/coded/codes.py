"""Codes: the values that the functions of a space take at places."""

from twinsheets.base.numbers import int_power, is_within
from twinsheets.base.tables import all_sums, combined, first_index, product_of, stepped, turned_steps, unit_lines
from twinsheets.base.tables import weight_of, zero_lines
from twinsheets.curve.spots import RIM
from twinsheets.divisor.functions import function_of
from twinsheets.divisor.lattices import basis_triples, let_basis
from twinsheets.divisor.searches import short_line
from twinsheets.divisor.shorts import Shorts, are_short, line_triple
from twinsheets.divisor.spaces import check_divisor, check_sized, is_in_space
from twinsheets.errors import InvalidCode, InvalidFunction, TooMany
from twinsheets.poly.polys import MAX_ENTRIES

MAX_LENGTH = 40
MAX_WORDS = 4000


class Code:
    """The code of a divisor at places; it never changes."""

    def __init__(self, divisor, places):
        check_divisor(divisor)
        if not are_code_points(divisor, places):
            raise InvalidCode("not code points of the divisor")
        check_sized(divisor)
        curve = divisor.curve
        let = let_basis(curve, divisor.table)
        triples = basis_triples(curve.prime, let)
        values = values_at(curve, triples, places)
        told = told_steps(curve.prime, values)
        self.limits = divisor
        self.places = places
        self.length = len(places)
        self.rows = tuple([line[:len(places)] for line in told])
        self.size = len(told)
        self._triples = triples
        # For each row, the residues by which the functions of the basis make one with this word.
        self._factors = tuple([line[len(places):] for line in told])
        self._columns = [tuple([line[at] for line in values]) for at in range(len(places))]
        # The functions with a word of zeros, by the residues times which those of the basis add up to them.
        self._idle = zero_lines(curve.prime, unit_lines(len(values)), self._columns)
        # Where the functions of the basis have short polynomials, all sums of them do.
        self._shorts = None
        if not are_short(triples, MAX_ENTRIES):
            self._shorts = Shorts(curve, divisor.table, let, MAX_ENTRIES)

    def word_of(self, function):
        """The word of a function."""
        if not is_in_space(self.limits, function):
            raise InvalidFunction("not a function of the space")
        return tuple([function.value_at(place) for place in self.places])

    def function_of(self, word):
        """A function of the space with this word."""
        if word not in self:
            raise InvalidCode("not a word of the code")
        prime = self.limits.curve.prime
        total = (0,) * len(self._triples)
        for line, factors in zip(self.rows, self._factors):
            total = combined(prime, total, word[first_index(line)], factors)
        if self._shorts is not None and any(word):
            total = short_line(self._shorts, self._columns, self._idle, word, total)
        return function_of(self.limits.curve, line_triple(prime, total, self._triples))

    def words(self):
        """All words, ascending."""
        check_words(self)
        for word in all_sums(self.limits.curve.prime, self.rows, self.length):
            yield word

    def least_distance(self):
        """The least weight of a word other than that of zeros, None if there is no other one."""
        word = self.lightest()
        return None if word is None else weight_of(word)

    def lightest(self):
        """A word of the least weight, or None."""
        found = None
        for word in self.words():
            weight = weight_of(word)
            if weight and (found is None or weight < weight_of(found)):
                found = word
        return found

    def turned(self):
        """The rows of the turned code."""
        return tuple(turned_steps(self.limits.curve.prime, self.rows, self.length))

    def mend(self, value):
        """The only word that differs from a tuple at less than half of the least distance, or None."""
        if not is_line(self, value):
            raise InvalidCode("not a tuple of residues of this length")
        least = self.least_distance()
        if least is None:
            return None
        prime = self.limits.curve.prime
        for word in self.words():
            if 2 * weight_of(combined(prime, value, -1, word)) < least:
                return word
        return None

    def __contains__(self, value):
        return is_line(self, value) and is_told(self, value)

    def __len__(self):
        return len(self.places)

    def __eq__(self, other):
        return isinstance(other, Code) and self.limits == other.limits and self.places == other.places

    def __str__(self):
        return f"code of length {self.length} and size {self.size}"


def code_points(divisor):
    """The finite places of degree 1 at which the divisor has no integer, the first 40 of them."""
    check_divisor(divisor)
    return tuple(free_points(divisor)[:MAX_LENGTH])


def is_turned(code, value):
    """Whether the value is in the turned code."""
    if not isinstance(code, Code):
        raise InvalidCode("not a code")
    prime = code.limits.curve.prime
    return is_line(code, value) and all([product_of(prime, line, value) == 0 for line in code.rows])


def check_words(code):
    """Refuse a code with too many words."""
    if int_power(code.limits.curve.prime, code.size) > MAX_WORDS:
        raise TooMany(MAX_WORDS)


def free_points(divisor):
    """The ascending list of the finite places of degree 1 at which a divisor has no integer."""
    return [place for place in divisor.curve.points() if place[0] != RIM and place not in divisor]


def are_code_points(divisor, value):
    """Whether the value is an ascending tuple of 1 to 40 such places."""
    if not isinstance(value, tuple) or not 1 <= len(value) <= MAX_LENGTH:
        return False
    if not all([place in divisor.curve for place in value]):
        return False
    ranks = {place: at for at, place in enumerate(free_points(divisor))}
    told = [ranks.get(place, -1) for place in value]
    return told[0] >= 0 and all([low < high for low, high in zip(told, told[1:])])


def values_at(curve, triples, places):
    """For each triple the tuple of its values at places."""
    functions = [function_of(curve, triple) for triple in triples]
    return [tuple([function.value_at(place) for place in places]) for function in functions]


def told_steps(prime, values):
    """The rows of the code, each with the residues of the functions that make it behind it."""
    lines = [line + unit for line, unit in zip(values, unit_lines(len(values)))]
    return stepped(prime, lines, len(values[0]) if values else 0)


def is_line(code, value):
    """Whether the value is a tuple of as many residues as the length."""
    if not isinstance(value, tuple) or len(value) != code.length:
        return False
    return all([is_within(entry, 0, code.limits.curve.prime - 1) for entry in value])


def is_told(code, line):
    """Whether a tuple of residues is the sum of the rows, each times the entry at its first index."""
    prime = code.limits.curve.prime
    for row in code.rows:
        line = combined(prime, line, -line[first_index(row)], row)
    return weight_of(line) == 0
