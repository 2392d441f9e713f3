"""The errors of the package."""


class CurveError(ValueError):
    """An argument is not what the call needs."""


class InvalidPrime(CurveError):
    """Not one of the ten primes."""


class InvalidPoly(CurveError):
    """Not a polynomial, or not one of the needed form."""


class InvalidField(CurveError):
    """Not a member of the field."""


class InvalidCurve(CurveError):
    """Not a curve, or not one of the needed kind."""


class InvalidPlace(CurveError):
    """Not a place of the curve."""


class InvalidChange(CurveError):
    """Not a change, or not the table or scale of one."""


class InvalidFunction(CurveError):
    """Not a function on the curve."""


class InvalidDivisor(CurveError):
    """Not a divisor of the curve."""


class InvalidTriple(CurveError):
    """Not a triple of the curve."""


class InvalidPaper(CurveError):
    """Not a tuple of the needed form."""


class InvalidCode(CurveError):
    """Not a code, or not places or a word of one."""


class InvalidOperation(CurveError):
    """The arguments do not go together, or have no result."""


class ParseError(CurveError):
    """A text that cannot be read, with the index at which it fails."""

    def __init__(self, index):
        self.index = index


class InvalidCount(IndexError):
    """A value that is no integer within the told bounds."""

    def __init__(self, value):
        self.value = value


class UnknownName(KeyError):
    """A name that nothing has."""

    def __init__(self, name):
        self.name = name


class NothingToUndo(RuntimeError):
    """More changes are wanted back than there are."""

    def __init__(self, wanted):
        self.wanted = wanted


class TooMany(OverflowError):
    """More than the limit."""

    def __init__(self, limit):
        self.limit = limit


class Refused(ArithmeticError):
    """What stands against a change."""

    def __init__(self, reason):
        self.reason = reason
