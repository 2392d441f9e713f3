"""[1.1], [1.2]: the errors."""

import unittest

from twinsheets import errors

OF_CURVES = ("InvalidPrime", "InvalidPoly", "InvalidField", "InvalidCurve", "InvalidPlace", "InvalidChange",
             "InvalidFunction", "InvalidDivisor", "InvalidTriple", "InvalidPaper", "InvalidCode", "InvalidOperation",
             "ParseError")
KEEPERS = {"InvalidCount": ("value", IndexError), "UnknownName": ("name", KeyError),
           "NothingToUndo": ("wanted", RuntimeError), "TooMany": ("limit", OverflowError),
           "Refused": ("reason", ArithmeticError)}
VALUES = (0, -1, 10 ** 99, True, None, "", "a name", (), (1, (2, "x")), [], [1], {}, {"a": [1]}, object())


class ErrorsTest(unittest.TestCase):
    def test_what_each_is_derived_from(self):
        self.assertEqual(errors.CurveError.__bases__, (ValueError,))
        for name in OF_CURVES:
            self.assertEqual(getattr(errors, name).__bases__, (errors.CurveError,), name)
        for name, (_, base) in KEEPERS.items():
            self.assertEqual(getattr(errors, name).__bases__, (base,), name)

    def test_each_is_caught_by_its_name_and_by_no_other(self):
        names = OF_CURVES + tuple(KEEPERS) + ("CurveError",)
        for name in names:
            made = getattr(errors, name)("told")
            catchers = {other for other in names if isinstance(made, getattr(errors, other))}
            self.assertEqual(catchers, {name, "CurveError"} if name in OF_CURVES else {name})
            for base in (ValueError, IndexError, KeyError, RuntimeError, OverflowError, ArithmeticError):
                if name in KEEPERS:
                    told = issubclass(KEEPERS[name][1], base)
                else:
                    told = base is ValueError
                self.assertEqual(isinstance(made, base), told, (name, base))

    def test_raised_and_caught(self):
        for name in OF_CURVES + tuple(KEEPERS):
            error = getattr(errors, name)
            for catcher in (error,) + error.__bases__:
                try:
                    raise error("told")
                except catcher as caught:
                    self.assertIs(type(caught), error)

    def test_the_very_value_is_kept(self):
        for value in VALUES:
            for name, (kept, _) in KEEPERS.items():
                self.assertIs(getattr(getattr(errors, name)(value), kept), value)
            self.assertIs(errors.ParseError(value).index, value)

    def test_the_others_take_a_message(self):
        for name in OF_CURVES[:-1] + ("CurveError",):
            self.assertEqual(getattr(errors, name)("why").args, ("why",))


if __name__ == "__main__":
    unittest.main()
