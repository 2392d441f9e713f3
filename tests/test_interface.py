"""The interface: the names, where they stand, and the arguments that they take."""

import inspect
import unittest
from importlib import import_module

from twinsheets.coded.codes import Code
from twinsheets.curve.curves import Curve
from twinsheets.divisor.divisors import Divisor
from twinsheets.poly.polys import Poly

FUNCTIONS = {
    "twinsheets.base.numbers": {
        "is_integer": "value", "is_prime": "value", "is_residue": "prime value", "is_name": "value",
        "factors": "number", "residue_inverse": "prime number", "residue_root": "prime number",
        "least_nonsquare": "prime"},
    "twinsheets.poly.polys": {"poly_at": "prime number"},
    "twinsheets.poly.division": {
        "common": "one other", "cofactors": "one other", "are_cofactors": "one other value",
        "power_modulo": "base exponent modulus", "inverse_modulo": "poly modulus", "joined_rests": "rows",
        "is_square_free": "poly"},
    "twinsheets.poly.factors": {
        "parts": "poly", "is_irreducible": "poly", "roots": "poly", "raised": "poly times", "by_degrees": "poly",
        "bar_of": "poly", "is_bar": "poly value", "discriminant": "poly", "count_irreducible": "prime degree",
        "irreducibles": "prime degree", "least_irreducible": "prime degree"},
    "twinsheets.poly.signs": {
        "sign": "f u", "turned": "f u", "sign_sum": "f degree", "is_square_modulo": "f u", "roots_modulo": "f u",
        "bar_modulo": "f u", "is_bar_modulo": "f u value"},
    "twinsheets.field.fields": {"points_off": "f degree", "points_walked": "f degree"},
    "twinsheets.curve.places": {
        "is_place": "curve value", "degree_of": "curve place", "opposite": "curve place", "kind_of": "curve place",
        "places_over": "curve poly", "places": "curve degree", "point_at": "curve x y", "point_of": "curve place"},
    "twinsheets.curve.changes": {
        "plain_change": "prime genus", "count_changes": "prime", "each_change": "prime genus",
        "changed": "curve change", "led": "curve change place", "between": "one other", "is_change": "one other value",
        "own_changes": "curve"},
    "twinsheets.zeta.bounds": {"sums_row": "prime value", "are_bounded": "prime value"},
    "twinsheets.zeta.counts": {
        "by_points": "curve", "by_signs": "curve", "sum_of_signs": "curve degree", "table_of": "curve",
        "by_table": "curve", "l_of": "curve", "class_number": "curve", "points_over": "curve degree",
        "places_of": "curve degree", "l_over": "curve degree"},
    "twinsheets.divisor.divisors": {"divisor_of": "function", "place_divisor": "curve place"},
    "twinsheets.divisor.spaces": {
        "space_of": "divisor", "size_of": "divisor", "is_in_space": "divisor value", "is_basis": "divisor value",
        "canonical": "curve", "function_between": "one other", "is_between": "one other value",
        "are_alike": "one other", "gaps": "curve place"},
    "twinsheets.group.triples": {
        "is_triple": "curve value", "zero_triple": "curve", "triple_of": "divisor", "is_paper": "divisor value",
        "sum_told": "one other", "all_triples": "curve"},
    "twinsheets.group.orders": {
        "order_of": "triple", "order_paper": "triple", "is_order_paper": "triple value", "logarithm": "base other"},
    "twinsheets.group.kinds": {
        "kinds": "curve", "makers": "curve", "is_makers": "curve value", "orders_met": "curve", "halves": "curve",
        "count_halves": "curve"},
    "twinsheets.chain.chains": {
        "root_part": "curve", "chain": "curve many", "length_of": "curve", "least_unit": "curve",
        "ideal_classes": "curve", "unit_power": "curve number", "is_unit": "curve value", "unit_parts": "curve unit",
        "solve": "curve c", "is_solution": "curve c value", "is_reduced_pair": "curve value",
        "next_pair": "curve pair", "reduced_pairs": "curve", "rounds": "curve"},
    "twinsheets.coded.codes": {"code_points": "divisor", "is_turned": "code value"},
    "twinsheets.family.families": {
        "count_square_free": "prime degree", "square_free_ones": "prime degree", "excess_of": "poly",
        "excess_sum": "prime degree", "count_curves": "prime genus", "family_of": "curve", "families": "prime genus",
        "mass": "prime genus"},
    "twinsheets.use.bench": {"is_pledge": "value"},
}
METHODS = {
    ("twinsheets.poly.polys", "Poly"): {
        "__init__": "prime entries", "read": "prime text", "__add__": "other", "__sub__": "other", "__mul__": "other",
        "__floordiv__": "other", "__mod__": "other", "__neg__": "", "__call__": "residue", "__getitem__": "power",
        "monic": "", "scaled": "residue", "derivative": "", "power": "exponent", "composed": "other",
        "reversed_to": "size", "__eq__": "other", "__str__": ""},
    ("twinsheets.field.fields", "Field"): {
        "__init__": "prime degree", "added": "one other", "multiplied": "one other", "negative": "one",
        "inverse": "one", "power": "one exponent", "value_of": "poly one", "is_square": "one", "root": "one",
        "orbit": "one", "least_poly": "one", "trace": "one", "norm_of": "one", "__len__": "", "__contains__": "value",
        "__iter__": "", "__eq__": "other", "__str__": ""},
    ("twinsheets.curve.curves", "Curve"): {
        "__init__": "poly", "read": "prime text", "points": "", "twist": "", "__len__": "", "__iter__": "",
        "__contains__": "value", "__eq__": "other", "__str__": ""},
    ("twinsheets.curve.changes", "Change"): {
        "__init__": "prime genus table scale", "then": "other", "inverse": "", "__eq__": "other", "__str__": ""},
    ("twinsheets.divisor.functions", "Function"): {
        "__init__": "curve a b c", "__add__": "other", "__sub__": "other", "__mul__": "other", "__neg__": "",
        "over": "other", "opposite": "", "power": "many", "order_at": "place", "value_at": "place", "__eq__": "other",
        "__str__": ""},
    ("twinsheets.divisor.divisors", "Divisor"): {
        "__init__": "curve table", "__add__": "other", "__sub__": "other", "__neg__": "", "times": "many",
        "at": "place", "opposite": "", "__len__": "", "__iter__": "", "__contains__": "value", "__eq__": "other",
        "__str__": ""},
    ("twinsheets.group.triples", "Triple"): {
        "__init__": "curve u v n", "divisor": "", "plus": "other", "minus": "other", "opposite": "", "times": "number",
        "__eq__": "other", "__str__": ""},
    ("twinsheets.coded.codes", "Code"): {
        "__init__": "divisor places", "word_of": "function", "function_of": "word", "words": "", "least_distance": "",
        "lightest": "", "turned": "", "mend": "value", "__contains__": "value", "__len__": "", "__eq__": "other",
        "__str__": ""},
    ("twinsheets.use.bench", "Bench"): {
        "__init__": "curves", "put": "name curve", "mark": "name home divisor", "add": "name one other",
        "carry": "name function", "turn": "name", "twist": "name", "drop": "name", "rename": "names",
        "demand": "pledge", "waive": "pledge", "undo": "many", "redo": "many", "trial": "", "during": "call",
        "twin": "", "curve_named": "name", "divisor_named": "name", "home_of": "name", "__contains__": "value",
        "__len__": "", "__iter__": "", "__eq__": "other", "__str__": ""},
}
PROPERTIES = {
    "Poly": ("prime", "entries", "degree", "lead", "number", "is_zero", "is_monic"),
    "Field": ("prime", "degree", "modulus", "size", "maker"),
    "Curve": ("f", "prime", "kind", "genus", "rims"),
    "Change": ("prime", "genus", "table", "scale"),
    "Function": ("curve", "a", "b", "c", "norm", "is_zero", "is_residue"),
    "Divisor": ("curve", "table", "degree", "is_positive"),
    "Triple": ("curve", "u", "v", "n"),
    "Code": ("limits", "places", "length", "size", "rows"),
    "Bench": ("names", "lines", "pledges", "changes"),
}
# What an object of each class is made of.
MADE = {"Poly": (3, (1, 2)), "Field": (3, 2), "Curve": (Poly(3, (0, 1)),), "Change": (3, 1, (1, 0, 0, 1), 1),
        "Function": (Curve.read(3, "x"), Poly(3, (1,)), Poly(3, ()), Poly(3, (0, 1))), "Divisor": (Curve.read(3, "x"), {}),
        "Triple": (Curve.read(3, "x"), Poly(3, (1,)), Poly(3, ())),
        "Code": (Divisor(Curve.read(3, "x"), {("rim", 0): 1}), (((0, 1), ()),)), "Bench": ({"one": Curve.read(3, "x")},)}
# Methods with a default value, and parameters that are passed by keyword alone.
DEFAULTS = {"Triple.__init__": {"n": 0}, "Bench.undo": {"many": 1}, "Bench.redo": {"many": 1}}
KEYWORDS = ("Bench.undo", "Bench.redo")
CONSTANTS = {
    "twinsheets.base.numbers": {"MAX_FACTORED": 10 ** 12, "MAX_LETTERS": 8},
    "twinsheets.poly.polys": {"MAX_ENTRIES": 1000},
    "twinsheets.poly.factors": {"MAX_PARTED": 60, "MAX_LISTED": 20},
    "twinsheets.poly.signs": {"MAX_SUMMED": 3000, "MAX_ROOTS": 1000},
    "twinsheets.field.fields": {"MAX_SIZE": 3000},
    "twinsheets.curve.curves": {"MAX_DEGREE": 8},
    "twinsheets.curve.places": {"MAX_DEGREE": 8},
    "twinsheets.curve.changes": {"MAX_WALKED": 13},
    "twinsheets.zeta.counts": {"MAX_WALKED": 3000, "MAX_FAR": 200},
    "twinsheets.divisor.functions": {"MAX_POWER": 60},
    "twinsheets.divisor.divisors": {"MAX_COEFFICIENT": 200},
    "twinsheets.divisor.spaces": {"MAX_SIZE": 60},
    "twinsheets.group.triples": {"MAX_TRIPLES": 2000},
    "twinsheets.group.orders": {"MAX_ORDER": 10 ** 6},
    "twinsheets.group.kinds": {"MAX_GROUP": 2000},
    "twinsheets.chain.chains": {"MAX_LENGTH": 2000, "MAX_POWER": 60},
    "twinsheets.coded.codes": {"MAX_LENGTH": 40, "MAX_WORDS": 4000},
    "twinsheets.family.families": {"MAX_FAMILY": 100000, "MAX_FAMILY_DEGREE": 200},
    "twinsheets.use.bench": {"MAX_CURVES": 6, "MAX_DIVISORS": 12, "MAX_PLEDGES": 10},
}
GENERATORS = (("twinsheets.poly.factors", "irreducibles"), ("twinsheets.field.fields", "points_off"),
              ("twinsheets.curve.places", "places"), ("twinsheets.curve.changes", "each_change"),
              ("twinsheets.group.triples", "all_triples"), ("twinsheets.family.families", "square_free_ones"))


class InterfaceTest(unittest.TestCase):
    def test_functions(self):
        for module, names in FUNCTIONS.items():
            for name, parameters in names.items():
                function = getattr(import_module(module), name)
                self.assertEqual(function.__module__, module)
                self.assertEqual(list(inspect.signature(function).parameters), parameters.split(), name)

    def test_methods(self):
        for (module, name), methods in METHODS.items():
            told = getattr(import_module(module), name)
            self.assertEqual(told.__module__, module)
            for method, parameters in methods.items():
                held = vars(told)[method]
                function = held.__func__ if isinstance(held, classmethod) else held
                told_ones = list(inspect.signature(function).parameters.values())[1:]
                self.assertEqual([one.name for one in told_ones], parameters.split(), method)
                label = f"{name}.{method}"
                self.assertEqual({one.name: one.default for one in told_ones if one.default is not one.empty},
                                 DEFAULTS.get(label, {}))
                self.assertTrue(all((one.kind is one.KEYWORD_ONLY) == (label in KEYWORDS) for one in told_ones))

    def test_properties(self):
        made = {name: getattr(import_module(module), name)(*MADE[name]) for module, name in METHODS}
        for name, properties in PROPERTIES.items():
            for told in properties:
                self.assertTrue(hasattr(made[name], told), told)

    def test_constants(self):
        for module, told in CONSTANTS.items():
            for name, value in told.items():
                self.assertEqual(getattr(import_module(module), name), value)

    def test_generators(self):
        for module, name in GENERATORS:
            self.assertTrue(inspect.isgeneratorfunction(getattr(import_module(module), name)))
        self.assertTrue(inspect.isgeneratorfunction(Code.words))


if __name__ == "__main__":
    unittest.main()
