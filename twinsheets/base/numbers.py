"""Integers, residues modulo a prime, and names."""

from twinsheets.errors import InvalidCount, InvalidPrime, TooMany

PRIMES = (3, 5, 7, 11, 13, 17, 19, 23, 29, 31)
MAX_FACTORED = 10 ** 12
MAX_LETTERS = 8
# The greatest integer that may be passed: it has sixty digits.
MAX_INTEGER = 10 ** 60 - 1


def is_integer(value):
    """Whether the value is an integer of at most sixty digits."""
    # True and False are values of int as well.
    if isinstance(value, bool) or not isinstance(value, int):
        return False
    return -MAX_INTEGER <= value <= MAX_INTEGER


def is_within(value, low, high):
    """Whether the value is an integer with at most sixty digits from low to high."""
    return is_integer(value) and low <= value <= high


def is_prime(value):
    """Whether the value is one of the ten primes."""
    return is_integer(value) and value in PRIMES


def is_residue(prime, value):
    """Whether the value is a residue of the prime."""
    check_prime(prime)
    return is_within(value, 0, prime - 1)


def is_name(value):
    """Whether the value is a string of one to eight letters a to z."""
    if not isinstance(value, str) or not 1 <= len(value) <= MAX_LETTERS:
        return False
    return all(["a" <= letter <= "z" for letter in value])


def check_prime(prime):
    """Refuse what is none of the ten primes."""
    if not is_prime(prime):
        raise InvalidPrime("not one of the ten primes from 3 to 31")


def check_count(value, low, high):
    """Refuse what is no integer from low to high."""
    if not is_within(value, low, high):
        raise InvalidCount(value)


def factors(number):
    """The dict from the prime numbers that divide a number to how often each does."""
    check_count(number, 1, MAX_INTEGER)
    if number > MAX_FACTORED:
        raise TooMany(MAX_FACTORED)
    found = {}
    divisor = 2
    while divisor * divisor <= number:
        while number % divisor == 0:
            found[divisor] = found.get(divisor, 0) + 1
            number = number // divisor
        # Behind 2 only odd numbers can be prime.
        divisor = divisor + 1 if divisor == 2 else divisor + 2
    if number > 1:
        found[number] = 1
    return found


def residue_inverse(prime, number):
    """The inverse of a residue."""
    check_prime(prime)
    check_count(number, 1, prime - 1)
    return inverse_of(prime, number)


def inverse_of(prime, number):
    """The inverse of what surely is a residue other than 0."""
    inverse = 1
    while inverse * number % prime != 1:
        inverse = inverse + 1
    return inverse


def residue_root(prime, number):
    """The least residue with this square, or None."""
    check_prime(prime)
    check_count(number, 0, prime - 1)
    for root in range(prime):
        if root * root % prime == number:
            return root
    return None


def least_nonsquare(prime):
    """The least residue that is no square."""
    check_prime(prime)
    number = 2
    while residue_root(prime, number) is not None:
        number = number + 1
    return number


def int_power(base, exponent):
    """The power of an integer; the language lets no exponent that varies."""
    power = 1
    for _ in range(exponent):
        power = power * base
    return power


def is_power_above(base, exponent, limit):
    """Whether a power is above a limit, told without the whole of a great power."""
    power = 1
    while exponent and power <= limit:
        power = power * base
        exponent = exponent - 1
    return power > limit
