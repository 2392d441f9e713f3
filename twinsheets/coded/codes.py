"""Codes: the values that the functions of a space take at places."""

from twinsheets.base.numbers import int_power, is_within
from twinsheets.coded.tables import all_sums, combined, first_index, product_of, stepped, turned_steps, weight_of
from twinsheets.curve.spots import RIM
from twinsheets.divisor.functions import function_of
from twinsheets.divisor.lattices import let_triples
from twinsheets.divisor.spaces import check_divisor, check_sized, is_in_space
from twinsheets.errors import InvalidCode, InvalidFunction, TooMany
from twinsheets.poly.rows import row_scaled, row_sum

MAX_LENGTH = 40
MAX_WORDS = 4000


class Code:
    """The code of a divisor at places; it never changes."""

    def __init__(self, divisor, places):
        check_divisor(divisor)
        if not are_code_points(divisor, places):
            raise InvalidCode("not code points of the divisor")
        check_sized(divisor)
        triples = let_triples(divisor.curve, divisor.table)
        told = told_steps(divisor.curve, triples, places)
        self.limits = divisor
        self.places = places
        self.length = len(places)
        self.rows = tuple([line[:len(places)] for line in told])
        self.size = len(told)
        self._triples = triples
        # For each row, the residues by which the functions of the basis make one with this word.
        self._factors = tuple([line[len(places):] for line in told])

    def word_of(self, function):
        """The word of a function."""
        if not is_in_space(self.limits, function):
            raise InvalidFunction("not a function of the space")
        return tuple([function.value_at(place) for place in self.places])

    def function_of(self, word):
        """A function of the space with this word."""
        if word not in self:
            raise InvalidCode("not a word of the code")
        prime = self.limits.curve.prime
        total = (0,) * len(self._triples)
        for line, factors in zip(self.rows, self._factors):
            total = combined(prime, total, word[first_index(line)], factors)
        return function_of(self.limits.curve, triple_total(prime, total, self._triples))

    def words(self):
        """All words, ascending."""
        check_words(self)
        for word in all_words(self):
            yield word

    def least_distance(self):
        """The least weight of a word other than that of zeros, None if there is no other one."""
        word = self.lightest()
        return None if word is None else weight_of(word)

    def lightest(self):
        """A word of the least weight, or None."""
        check_words(self)
        found = None
        for word in all_words(self):
            weight = weight_of(word)
            if weight and (found is None or weight < weight_of(found)):
                found = word
        return found

    def turned(self):
        """The rows of the turned code."""
        return tuple(turned_steps(self.limits.curve.prime, self.rows, self.length))

    def mend(self, value):
        """The only word that differs from a tuple at less than half of the least distance, or None."""
        if not is_line(self, value):
            raise InvalidCode("not a tuple of residues of this length")
        least = self.least_distance()
        if least is None:
            return None
        prime = self.limits.curve.prime
        for word in all_words(self):
            if 2 * weight_of(combined(prime, value, -1, word)) < least:
                return word
        return None

    def __contains__(self, value):
        return is_line(self, value) and is_told(self, value)

    def __len__(self):
        return len(self.places)

    def __eq__(self, other):
        return isinstance(other, Code) and self.limits == other.limits and self.places == other.places

    def __str__(self):
        return f"code of length {self.length} and size {self.size}"


def code_points(divisor):
    """The finite places of degree 1 at which the divisor has no integer, the first 40 of them."""
    check_divisor(divisor)
    return tuple(free_points(divisor)[:MAX_LENGTH])


def is_turned(code, value):
    """Whether the value is in the turned code."""
    if not isinstance(code, Code):
        raise InvalidCode("not a code")
    prime = code.limits.curve.prime
    return is_line(code, value) and all([product_of(prime, line, value) == 0 for line in code.rows])


def check_words(code):
    """Refuse a code with too many words."""
    if int_power(code.limits.curve.prime, code.size) > MAX_WORDS:
        raise TooMany(MAX_WORDS)


def free_points(divisor):
    """The ascending list of the finite places of degree 1 at which a divisor has no integer."""
    return [place for place in divisor.curve.points() if place[0] != RIM and place not in divisor]


def are_code_points(divisor, value):
    """Whether the value is an ascending tuple of 1 to 40 such places."""
    if not isinstance(value, tuple) or not 1 <= len(value) <= MAX_LENGTH:
        return False
    if not all([place in divisor.curve for place in value]):
        return False
    ranks = {place: at for at, place in enumerate(free_points(divisor))}
    told = [ranks.get(place, -1) for place in value]
    return told[0] >= 0 and all([low < high for low, high in zip(told, told[1:])])


def told_steps(curve, triples, places):
    """The rows of the code, each with the residues of the functions that make it behind it."""
    lines = []
    for at, triple in enumerate(triples):
        function = function_of(curve, triple)
        values = [function.value_at(place) for place in places]
        lines.append(tuple(values + [int(at == other) for other in range(len(triples))]))
    return stepped(curve.prime, lines, len(places))


def triple_total(prime, factors, triples):
    """The sum of triples with one row below, each times a residue."""
    first, second, below = (), (), (1,)
    for factor, (a, b, c) in zip(factors, triples):
        first = row_sum(prime, first, row_scaled(prime, a, factor))
        second = row_sum(prime, second, row_scaled(prime, b, factor))
        below = c
    return first, second, below


def all_words(code):
    """The ascending list of all words."""
    return all_sums(code.limits.curve.prime, code.rows, code.length)


def is_line(code, value):
    """Whether the value is a tuple of as many residues as the length."""
    if not isinstance(value, tuple) or len(value) != code.length:
        return False
    return all([is_within(entry, 0, code.limits.curve.prime - 1) for entry in value])


def is_told(code, line):
    """Whether a tuple of residues is the sum of the rows, each times the entry at its first index."""
    prime = code.limits.curve.prime
    for row in code.rows:
        line = combined(prime, line, -line[first_index(row)], row)
    return weight_of(line) == 0
