"""Polynomials over the residues modulo a prime."""

from twinsheets.base.numbers import MAX_INTEGER, check_count, check_prime, is_within
from twinsheets.errors import InvalidOperation, InvalidPoly, ParseError
from twinsheets.poly.rows import row_at, row_composed, row_derivative, row_difference, row_divided, row_monic
from twinsheets.poly.rows import row_negative, row_number, row_power, row_product, row_scaled, row_sum, row_value
from twinsheets.poly.rows import trimmed

MAX_ENTRIES = 1000
_MAX_POWER = 1000
# An entry is at most 30.
_MAX_DIGITS = 2


class Made:
    """A row that the package worked out: its polynomial may be longer than what is passed."""

    def __init__(self, row):
        self.row = row


class Poly:
    """A polynomial; it never changes."""

    def __init__(self, prime, entries):
        check_prime(prime)
        if isinstance(entries, Made):
            entries = entries.row
        elif not is_row(prime, entries):
            raise InvalidPoly("not the entries of a polynomial")
        self.prime = prime
        self.entries = entries
        self.degree = len(entries) - 1
        self.lead = entries[-1] if entries else 0
        self.is_zero = not entries
        self.is_monic = self.lead == 1

    @classmethod
    def read(cls, prime, text):
        """The polynomial with a text."""
        check_prime(prime)
        row = row_told(prime, text)
        if row is None:
            raise ParseError(0)
        return cls(prime, row)

    @property
    def number(self):
        """The sum of all entries times the powers of the prime."""
        return row_number(self.prime, self.entries)

    def __add__(self, other):
        if not isinstance(other, Poly):
            return NotImplemented
        check_one_prime(self, other)
        return poly_of(self.prime, row_sum(self.prime, self.entries, other.entries))

    def __sub__(self, other):
        if not isinstance(other, Poly):
            return NotImplemented
        check_one_prime(self, other)
        return poly_of(self.prime, row_difference(self.prime, self.entries, other.entries))

    def __mul__(self, other):
        if not isinstance(other, Poly):
            return NotImplemented
        check_one_prime(self, other)
        return poly_of(self.prime, row_product(self.prime, self.entries, other.entries))

    def __floordiv__(self, other):
        if not isinstance(other, Poly):
            return NotImplemented
        quotient, _ = divided(self, other)
        return poly_of(self.prime, quotient)

    def __mod__(self, other):
        if not isinstance(other, Poly):
            return NotImplemented
        _, rest = divided(self, other)
        return poly_of(self.prime, rest)

    def __neg__(self):
        return poly_of(self.prime, row_negative(self.prime, self.entries))

    def __call__(self, residue):
        check_residue(self.prime, residue)
        return row_value(self.prime, self.entries, residue)

    def __getitem__(self, power):
        check_count(power, 0, MAX_INTEGER)
        return self.entries[power] if power < len(self.entries) else 0

    # Without this, the items would make a polynomial one that can be iterated over.
    def __iter__(self):
        raise TypeError("a polynomial cannot be iterated over")

    def __eq__(self, other):
        return isinstance(other, Poly) and self.prime == other.prime and self.entries == other.entries

    def __str__(self):
        return "+".join(terms_of(self.entries))

    def monic(self):
        """Divided by its lead."""
        if self.is_zero:
            raise InvalidOperation("zero has no lead to divide by")
        return poly_of(self.prime, row_monic(self.prime, self.entries))

    def scaled(self, residue):
        """Multiplied by a residue."""
        check_residue(self.prime, residue)
        return poly_of(self.prime, row_scaled(self.prime, self.entries, residue))

    def derivative(self):
        """The derivative."""
        return poly_of(self.prime, row_derivative(self.prime, self.entries))

    def power(self, exponent):
        """The power with an exponent from 0 to 1000."""
        check_count(exponent, 0, _MAX_POWER)
        return poly_of(self.prime, row_power(self.prime, self.entries, exponent))

    def composed(self, other):
        """With another polynomial in the place of x."""
        check_poly(other)
        check_one_prime(self, other)
        return poly_of(self.prime, row_composed(self.prime, self.entries, other.entries))

    def reversed_to(self, size):
        """The polynomial x ** size * self(1 / x)."""
        check_count(size, max(self.degree, 0), _MAX_POWER)
        padding = (0,) * (size - self.degree)
        return poly_of(self.prime, trimmed(padding + self.entries[::-1]))


def poly_at(prime, number):
    """The polynomial with a number."""
    check_prime(prime)
    check_count(number, 0, MAX_INTEGER)
    return poly_of(prime, row_at(prime, number))


def poly_of(prime, row):
    """The polynomial of a row that the package worked out."""
    return Poly(prime, Made(row))


def is_row(prime, value):
    """Whether the value is the tuple of at most 1000 entries of a polynomial."""
    return isinstance(value, tuple) and len(value) <= MAX_ENTRIES and are_entries(prime, value)


def are_entries(prime, value):
    """Whether the value is the tuple of the entries of a polynomial: of residues, the last one not 0."""
    if not isinstance(value, tuple) or not all([is_within(entry, 0, prime - 1) for entry in value]):
        return False
    return not value or value[-1] != 0


def check_poly(value):
    """Refuse what is no polynomial."""
    if not isinstance(value, Poly):
        raise InvalidPoly("not a polynomial")


def check_one_prime(one, other):
    """Refuse polynomials of two primes."""
    if one.prime != other.prime:
        raise InvalidOperation("polynomials of two primes")


def check_residue(prime, value):
    """Refuse what is no residue to reckon with."""
    if not is_within(value, 0, prime - 1):
        raise InvalidOperation("not a residue of the prime")


def divided(one, other):
    """The rows of quotient and remainder of two polynomials."""
    check_one_prime(one, other)
    if other.is_zero:
        raise InvalidOperation("divided by zero")
    return row_divided(one.prime, one.entries, other.entries)


def terms_of(row):
    """The texts of the terms of a row, the greatest power first."""
    texts = [term_text(row[power], power) for power in range(len(row) - 1, -1, -1) if row[power]]
    return texts if texts else ["0"]


def term_text(entry, power):
    """The text of a term with an entry other than 0."""
    if power == 0:
        return str(entry)
    ahead = "" if entry == 1 else str(entry)
    return f"{ahead}x" if power == 1 else f"{ahead}x^{power}"


def row_told(prime, text):
    """The row of at most 1000 entries with a text, or None if the value is no text of one."""
    terms = terms_told(prime, text)
    if terms is None or terms and not is_lesser(terms[0][1], str(MAX_ENTRIES)):
        return None
    entries = {int(digits): entry for entry, digits in terms}
    return trimmed([entries.get(power, 0) for power in range(MAX_ENTRIES)])


def is_text(prime, value):
    """Whether the value is the text of a polynomial, with however many entries."""
    return terms_told(prime, value) is not None


def terms_told(prime, text):
    """The pairs of the entry and of the digits of the power of all terms of a text, or None for what is none."""
    if not isinstance(text, str):
        return None
    if text == "0":
        return []
    found = []
    for term in text.split("+"):
        ahead, sign, behind = term.partition("x")
        entry, digits = entry_told(ahead, sign), power_told(sign, behind)
        if not 0 < entry < prime or digits is None:
            return None
        if found and not is_lesser(digits, found[-1][1]):
            return None
        found.append((entry, digits))
    return found


def entry_told(ahead, sign):
    """The entry of a term, which is left out if it is 1, but for the power 0; 0 for what is none."""
    if sign and ahead in ("", "1"):
        return 0 if ahead else 1
    return int(ahead) if is_number(ahead) and len(ahead) <= _MAX_DIGITS else 0


def power_told(sign, behind):
    """The digits of the power of a term, or None."""
    if not behind:
        return "1" if sign else "0"
    digits = behind[1:]
    return digits if behind[0] == "^" and is_number(digits) and digits != "1" else None


def is_number(text):
    """Whether a string has digits alone, as an integer from 1 on has them."""
    return text[:1] > "0" and all(["0" <= digit <= "9" for digit in text])


def is_lesser(digits, other):
    """Whether the integer with the first digits is the lesser one; both may be too long to be reckoned with."""
    return (len(digits), digits) < (len(other), other)
