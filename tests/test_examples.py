"""The document's own examples: each input with the result, or the error, that stands below it."""

import unittest

from twinsheets import errors
from twinsheets.base import numbers
from twinsheets.chain import chains
from twinsheets.coded import codes
from twinsheets.curve import changes, curves, places
from twinsheets.divisor import divisors, functions, spaces
from twinsheets.family import families
from twinsheets.field import fields
from twinsheets.group import kinds, orders, triples
from twinsheets.poly import division, factors, polys, signs
from twinsheets.use import bench
from twinsheets.zeta import bounds, counts

EXAMPLES = r'''
>>> [factors(360), factors(1), factors(999999000001), is_prime(2), is_prime(31), is_residue(7, 7), is_name("quint")]
[{2: 3, 3: 2, 5: 1}, {}, {999999000001: 1}, False, True, False, True]
>>> [residue_inverse(7, 3), residue_root(7, 2), residue_root(7, 3), residue_root(5, 0), least_nonsquare(7), least_nonsquare(31), least_nonsquare(3)]
[5, 3, None, 0, 3, 3, 2]
>>> residue_inverse(5, 0)
raises InvalidCount(0)
>>> f, g = Poly.read(3, "x^5+2x+1"), Poly.read(3, "x^2+1")
>>> [f.entries, f.degree, f.lead, f.number, str(f // g), str(f % g), str(-g), str(f * g)]
[(1, 2, 0, 0, 0, 1), 5, 1, 250, 'x^3+2x', '1', '2x^2+2', 'x^7+x^5+2x^3+x^2+2x+1']
>>> [f(2), f[5], f[9], str(f.derivative()), str(g.composed(Poly.read(3, "x+1"))), str(g.reversed_to(3)), poly_at(3, 250) == f, str(poly_at(3, 0))]
[1, 1, 0, '2x^4+2', 'x^2+2x+2', 'x^3+x', True, '0']
>>> [str(common(f, g * g)), are_cofactors(f, g, (Poly(3, (1,)), Poly(3, (1,)), Poly.read(3, "2x^3+x"))), str(power_modulo(Poly.read(3, "x+1"), 4, g)), str(inverse_modulo(Poly.read(3, "x"), g)), inverse_modulo(g, g)]
['1', True, '2', '2x', None]
>>> [str(joined_rests(((Poly(3, (1,)), Poly.read(3, "x")), (Poly(3, (2,)), Poly.read(3, "x+1"))))), is_square_free(f), is_square_free(g * g)]
['2x+1', True, False]
>>> f // Poly(3, ())
raises InvalidOperation
>>> sept, five, quint = Poly.read(3, "x^7+x+1"), Poly.read(5, "x^5+x+1"), Poly.read(3, "x^5+2x+1")
>>> [(str(part), many) for part, many in parts(five)[1]], parts(Poly.read(5, "2x^3"))[0], [str(part) for part, many in parts(sept)[1]]
([('x+3', 1), ('x^2+x+1', 1), ('x^2+x+2', 1)], 2, ['x+2', 'x^6+x^5+x^4+x^3+x^2+x+2'])
>>> [is_irreducible(quint), bar_of(quint), is_bar(sept, Poly.read(3, "x+2")), is_bar(sept, sept), roots(five), roots(Poly.read(3, "x^2+1"))]
[True, None, True, False, (2,), ()]
>>> [str(by_degrees(five)[2]), list(by_degrees(five)), str(raised(Poly.read(3, "x^2+1"), 1)), str(raised(Poly.read(3, "x^2+1"), 2))]
['x^4+2x^3+4x^2+3x+2', [1, 2], '2x', 'x']
>>> [count_irreducible(3, 2), count_irreducible(3, 4), [str(one) for one in irreducibles(3, 2)], str(least_irreducible(5, 2))]
[3, 18, ['x^2+1', 'x^2+x+2', 'x^2+2x+2'], 'x^2+2']
>>> [discriminant(Poly.read(3, "x^2+1")), discriminant(five), discriminant(quint), discriminant(Poly.read(3, "x^2+x+1"))]
[2, 1, 1, 0]
>>> ONE, X, F = Poly.read(3, "1"), Poly.read(3, "x"), Poly.read(3, "x^2+1")
>>> [sign(F, Poly.read(3, "x+1")), sign(QUINT.f, X), sign(X, F), sign(F, F), sign(Poly(3, ()), ONE), sign_sum(QUINT.f, 1), sign_sum(QUINT.f, 5)]
[-1, 1, 1, 0, 1, 3, 0]
>>> turned(F, Poly.read(3, "x+1")) == ((F, Poly.read(3, "x+1"), 1), (Poly.read(3, "x+1"), ONE, -1))
True
>>> [[str(root) for root in roots_modulo(X, F)], [str(root) for root in roots_modulo(ONE, Poly.read(3, "x^2+x"))], roots_modulo(ONE, ONE) == (Poly(3, ()),)]
[['x+2', '2x+1'], ['1', '2', 'x+2', '2x+1'], True]
>>> both = Poly.read(3, "x^2+x")
>>> [sign(Poly.read(3, "2"), both), is_square_modulo(Poly.read(3, "2"), both), str(bar_modulo(Poly.read(3, "2"), both)), is_bar_modulo(Poly.read(3, "2"), both, Poly.read(3, "x+1")), bar_modulo(ONE, both)]
[1, False, 'x', True, None]
>>> sign(F, Poly.read(3, "2x"))
raises InvalidPoly
>>> NINE, five = Field(3, 2), Field(5, 1)
>>> [str(NINE), NINE.multiplied(4, 5), NINE.added(4, 5), NINE.inverse(4), NINE.power(3, 2), NINE.maker, len(five), five.multiplied(3, 4)]
['field of 9 elements by x^2+1', 1, 6, 5, 2, 4, 5, 2]
>>> [NINE.orbit(4), str(NINE.least_poly(4)), NINE.trace(4), NINE.norm_of(4), NINE.is_square(4), NINE.root(2), NINE.root(4), 9 in NINE]
[(4, 7), 'x^2+x+2', 2, 2, False, 3, None, False]
>>> [points_walked(QUINT.f, 1), points_walked(QUINT.f, 2), points_walked(EVEN.f, 1), list(points_off(EVEN.f, 1))]
[7, 15, 6, [(0, 1), (0, 2), (2, 1), (2, 2)]]
>>> NINE.inverse(0)
raises InvalidOperation
>>> [QUINT.kind, EVEN.kind, NONE.kind, SEPT.genus, QUINT.rims, EVEN.rims, NONE.rims, len(FIVE), str(QUINT)]
['one', 'two', 'none', 3, (('rim', 0),), (('rim', 1), ('rim', 2)), (('rim', -1),), 6, 'y^2 = x^5+2x+1 over 3']
>>> EVEN.points()
(('rim', 1), ('rim', 2), ((0, 1), (1,)), ((0, 1), (2,)), ((1, 1), (1,)), ((1, 1), (2,)))
>>> [opposite(EVEN, ("rim", 1)), opposite(QUINT, ((0, 1), (1,))), kind_of(FIVE, ((3, 1), ())), kind_of(EVEN, ((2, 1), None)), degree_of(EVEN, ((2, 1), None)), degree_of(NONE, ("rim", -1))]
[('rim', 2), ((0, 1), (2,)), 'ramified', 'inert', 2, 2]
>>> [list(places(EVEN, 2)), places_over(QUINT, Poly.read(3, "x^2+1")), len(list(places(QUINT, 2)))]
[[((2, 1), None), ((2, 2, 1), (1, 1)), ((2, 2, 1), (2, 2))], (((1, 0, 1), (1,)), ((1, 0, 1), (2,))), 4]
>>> [point_at(FIVE, 2, 0), point_of(EVEN, ((1, 1), (2,))), is_place(QUINT, ((0, 1), (1, 0))), is_place(QUINT, ("rim", 1)), str(FIVE.twist())]
[((3, 1), ()), (2, 2), False, False, 'y^2 = 2x^5+2x+2 over 5']
>>> Curve.read(3, "x^4+2x^2+1")
raises InvalidCurve
>>> TURN = Change(3, 2, (0, 1, 1, 0), 1)
>>> TURNED = changed(QUINT, TURN)
>>> [str(TURNED.f), TURNED.kind, led(QUINT, TURN, ("rim", 0)), led(QUINT, TURN, ((0, 1), (1,))), TURN.inverse() == TURN]
['x^6+2x^5+x', 'two', ((0, 1), ()), ('rim', 1), True]
>>> [str(Change(3, 2, (0, 2, 2, 0), 2)), TURN.then(TURN) == plain_change(3, 2), count_changes(3), len(list(each_change(3, 2)))]
['0 1 1 0, 1', True, 48, 48]
>>> [[str(change) for change in own_changes(QUINT)], between(QUINT, EVEN), is_change(QUINT, TURNED, TURN), is_change(TURNED, QUINT, TURN)]
[['1 0 0 1, 1', '1 0 0 1, 2'], None, True, True]
>>> Change(3, 2, (1, 1, 2, 2), 1)
raises InvalidChange
>>> [by_points(QUINT), by_signs(QUINT), by_table(QUINT), table_of(QUINT), class_number(QUINT), l_of(EVEN), l_of(NONE), l_of(SEPT)]
[(1, 3, 7, 9, 9), (1, 3, 7, 9, 9), (1, 0, 1), ((0, 2), (1, 0)), 29, (1, 2, 3, 6, 9), (1, 0, 3, 0, 9), (1, 0, 0, 6, 0, 0, 27)]
>>> [[sum_of_signs(EVEN, 0), sum_of_signs(EVEN, 3), sum_of_signs(EVEN, 5), sum_of_signs(EVEN, 6)], points_over(QUINT, 8), places_of(QUINT, 4), l_over(QUINT, 2)]
[[1, 3, -9, 0], 6323, 17, (1, 5, 13, 45, 81)]
>>> [l_of(QUINT.twist()), class_number(QUINT.twist()), sums_row(3, (1, 3, 7, 9, 9)), sums_row(3, l_of(SEPT)), sums_row(5, l_of(FIVE))]
[(1, -3, 7, -9, 9), 5, (1, 3, 1), (6, -9, 0, 1), (0, 0, 1)]
>>> [are_bounded(3, (1, 3, 7, 9, 9)), are_bounded(3, (1, 0, -9, 0, 9)), are_bounded(3, (1, 2, 3)), are_bounded(3, (1, 1, 1))]
[True, False, True, False]
>>> X, ONE, NO = Poly.read(3, "x"), Poly(3, (1,)), Poly(3, ())
>>> unit = Function(EVEN, Poly.read(3, "x^3+x^2"), ONE, ONE)
>>> [str(unit), [str(one) for one in unit.norm], divisor_of(unit).table, str(divisor_of(unit)), unit.over(unit).is_residue]
['x^3+x^2+(1)y', ['2', '1'], {('rim', 1): -3, ('rim', 2): 3}, '-3(rim 1) + 3(rim 2)', True]
>>> y, less = Function(QUINT, NO, ONE, ONE), Function(QUINT, Poly(3, (2,)), ONE, X)
>>> [divisor_of(y).table, str(less), str(divisor_of(less)), less.order_at(((0, 1), (2,)))]
[{('rim', 0): -5, ((1, 2, 0, 0, 0, 1), ()): 1}, '(2+(1)y)/(x)', '-3(rim 0) - (x: 2) + (x+1: 1) + (x+2: 1) + (x^2+1: 1)', -1]
>>> [less.value_at(((0, 1), (1,))), y.value_at(((2, 1), (2,))), y * y == Function(QUINT, Poly.read(3, "x^5+2x+1"), NO, ONE), divisor_of(less).degree]
[1, 2, True, 0]
>>> less.value_at(((0, 1), (2,)))
raises InvalidOperation
>>> QRIM, QPOINT, QOTHER = place_divisor(QUINT, ("rim", 0)), place_divisor(QUINT, ((0, 1), (1,))), place_divisor(QUINT, ((0, 1), (2,)))
>>> [size_of(QRIM), size_of(QRIM.times(2)), size_of(QRIM.times(3)), size_of(QRIM.times(5)), size_of(QRIM.times(-1)), size_of(QPOINT.times(2)), size_of(QPOINT.times(3))]
[1, 2, 2, 4, 0, 1, 2]
>>> [gaps(QUINT, ("rim", 0)), gaps(QUINT, ((0, 1), (1,))), gaps(EVEN, ("rim", 1)), canonical(QUINT) == QRIM.times(2), size_of(canonical(EVEN)), size_of(canonical(NONE))]
[(1, 3), (1, 2), (1, 2), True, 2, 2]
>>> X, ONE = Function(QUINT, Poly(3, (0, 1)), Poly(3, ()), Poly(3, (1,))), Function(QUINT, Poly(3, (1,)), Poly(3, ()), Poly(3, (1,)))
>>> [is_between(QPOINT + QOTHER, QRIM.times(2), X), is_between(QPOINT + QOTHER, QRIM.times(2), ONE), are_alike(QPOINT, QOTHER), function_between(QPOINT, QRIM), is_basis(QRIM.times(3), (ONE, X)), is_basis(QRIM.times(3), (ONE, ONE + ONE))]
[True, False, False, None, True, False]
>>> [is_in_space(QRIM.times(2), X), is_in_space(QRIM, X), is_basis(QRIM.times(-1), ()), len(space_of(QRIM.times(9)))]
[True, False, True, 8]
>>> one, other = Triple(QUINT, Poly.read(3, "x"), Poly.read(3, "1")), Triple(QUINT, Poly.read(3, "x+2"), Poly.read(3, "1"))
>>> [str(one.plus(one)), str(one.plus(other)), str(one.plus(one).plus(one)), str(one.opposite()), str(one.minus(one)), str(one.times(3)), one.times(29) == zero_triple(QUINT)]
['(x^2, x+1, 0)', '(x^2+2x, 1, 0)', '(x^2+2x+1, x, 0)', '(x, 2, 0)', '(1, 0, 0)', '(x^2+2x+1, x, 0)', True]
>>> paper, two = sum_told(one.times(2), one), one.times(2)
>>> [paper[0] == one.times(3), is_paper(two.divisor() + one.divisor(), paper), is_paper(one.divisor(), paper), triple_of(one.divisor())[0] == one, one.divisor().degree]
[True, True, False, True, 0]
>>> [str(zero_triple(EVEN)), is_triple(EVEN, (Poly.read(3, "1"), Poly(3, ()), 3)), is_triple(QUINT, (Poly.read(3, "x"), Poly.read(3, "x"), 0)), len(list(all_triples(QUINT)))]
['(1, 0, 1)', False, False, 29]
>>> Triple(QUINT, Poly.read(3, "x"), Poly(3, ()))
raises InvalidTriple
>>> ROOT, PART = Triple(FIVE, Poly.read(5, "x+3"), Poly.read(5, "0"), 0), Triple(FIVE, Poly.read(5, "x^2+x+1"), Poly.read(5, "0"), 0)
>>> [order_of(ROOT), order_paper(PART) == (2, ((2, PART),)), is_order_paper(ROOT, (2, ((2, PART),))), is_order_paper(ROOT, (4, ((2, ROOT),)))]
[2, True, False, False]
>>> [logarithm(ROOT, zero_triple(FIVE)), logarithm(ROOT, ROOT), logarithm(ROOT, PART), order_of(zero_triple(FIVE)), order_paper(zero_triple(FIVE))]
[0, 1, None, 1, (1, ())]
>>> [kinds(QUINT), kinds(EVEN), kinds(SEPT), orders_met(QUINT), orders_met(EVEN), len(makers(SEPT))]
[(29,), (21,), (34,), {1: 1, 29: 28}, {1: 1, 3: 2, 7: 6, 21: 12}, 1]
>>> [count_halves(FIVE), halves(FIVE) == (zero_triple(FIVE), ROOT, PART, ROOT.plus(PART)), count_halves(QUINT), count_halves(SEPT), is_makers(QUINT, makers(QUINT)), is_makers(QUINT, ())]
[4, True, 1, 2, True, False]
>>> kinds(NONE)
raises InvalidOperation
>>> first, second = chain(EVEN, 2)
>>> [str(root_part(EVEN)), str(first[0]), str(second[0]), str(second[1]), str(second[2]), length_of(EVEN), ideal_classes(EVEN)]
['x^3+x^2', 'x^3+x^2', '2x^3+2x^2', 'x^3+x^2', '1', 3, 7]
>>> unit = least_unit(EVEN)
>>> [str(unit.a), str(unit.b), unit_power(EVEN, 1) == unit, unit_parts(EVEN, unit_power(EVEN, -2)), is_unit(EVEN, unit * unit)]
['x^3+x^2', '1', True, (1, -2), True]
>>> LONG = Curve.read(3, "x^6+x^2+x+1")
>>> third = chain(LONG, 3)[2]
>>> [str(third[0]), str(third[1]), str(third[2]), length_of(LONG), ideal_classes(LONG), len(reduced_pairs(EVEN)), len(rounds(EVEN)), len(rounds(LONG)[0])]
['2x^2', 'x^3+1', 'x', 21, 1, 15, 7, 15]
>>> [solve(EVEN, Poly.read(3, "x")), solve(LONG, Poly.read(3, "x+1")), is_solution(LONG, Poly.read(3, "x"), solve(LONG, Poly.read(3, "x"))), is_unit(EVEN, None)]
[None, None, True, False]
>>> length_of(QUINT)
raises InvalidCurve
>>> rim = QUINT.rims[0]
>>> code = Code(Divisor(QUINT, {rim: 4}), code_points(Divisor(QUINT, {rim: 4})))
>>> [code.places, str(code), code.rows]
[(((0, 1), (1,)), ((0, 1), (2,)), ((1, 1), (1,)), ((1, 1), (2,)), ((2, 1), (1,)), ((2, 1), (2,))), 'code of length 6 and size 3', ((1, 1, 0, 0, 0, 0), (0, 0, 1, 1, 0, 0), (0, 0, 0, 0, 1, 1))]
>>> [code.least_distance(), (1, 1, 0, 0, 2, 2) in code, (1, 0, 0, 0, 0, 0) in code, code.mend((1, 1, 0, 0, 0, 1)), code.turned()]
[2, True, False, None, ((1, 2, 0, 0, 0, 0), (0, 0, 1, 2, 0, 0), (0, 0, 0, 0, 1, 2))]
>>> Code(Divisor(QUINT, {rim: 4}), ())
raises InvalidCode
>>> [count_square_free(3, 2), count_square_free(3, 5), [str(one) for one in square_free_ones(3, 2)]]
[6, 162, ['x^2+1', 'x^2+2', 'x^2+x', 'x^2+x+2', 'x^2+2x', 'x^2+2x+2']]
>>> [excess_sum(3, 2), excess_sum(3, 3), excess_sum(7, 6), excess_of(Poly.read(5, "x^5+x+1")), excess_of(Poly.read(3, "x^2+1"))]
[-6, 0, -42, 0, -1]
>>> [count_curves(3, 2), count_curves(3, 0), mass(3, 2), mass(5, 0), mass(7, 1)]
[1296, 18, (27, 1), (5, 24), (7, 1)]
>>> [(str(head.f), many) for head, many in families(3, 0)]
[('x', 4), ('x^2+1', 8)]
>>> head, many = family_of(Curve.read(3, "2x^2+2x+1"))
>>> [str(head.f), many]
['x^2+1', 8]
>>> bench, kept = Bench({"one": QUINT}), ("alike", "d", "e")
>>> spot = Divisor(QUINT, {("rim", 0): -1, ((0, 1), (1,)): 1})
>>> [bench.mark("d", "one", spot), bench.mark("e", "one", spot), bench.demand(kept), str(bench)]
[((), ('divisor d on one: -(rim 0) + (x: 1)',)), ((), ('divisor e on one: -(rim 0) + (x: 1)',)), ((), ()), 'bench of 1 curves, 2 divisors, 1 pledges']
>>> x = Function(QUINT, Poly.read(3, "x"), Poly(3, ()), Poly(3, (1,)))
>>> [bench.carry("e", x), bench.changes, kept in bench, bench.names]
[(('divisor e on one: -(rim 0) + (x: 1)',), ('divisor e on one: -3(rim 0) + 2(x: 1) + (x: 2)',)), 4, True, ('d', 'e', 'one')]
>>> bench.turn("d")
raises Refused(("alike", "d", "e"))
>>> [bench.demand(("points", "one", 1, 7)), bench.demand(("classes", "one", 29)), bench.undo(many=2), bench.put("two", EVEN), bench.twist("two")]
[((), ()), ((), ()), ((), ()), ((), ('curve two y^2 = x^6+2x^5+x^4+1 over 3',)), (('curve two y^2 = x^6+2x^5+x^4+1 over 3',), ('curve two y^2 = 2x^6+x^5+2x^4+2 over 3',))]
>>> bench.twist("one")
raises InvalidOperation
'''


CURVES = """
QUINT = Curve.read(3, "x^5+2x+1")
EVEN = Curve.read(3, "x^6+2x^5+x^4+1")
NONE = Curve.read(3, "2x^6+x+1")
SEPT = Curve.read(3, "x^7+x+1")
FIVE = Curve.read(5, "x^5+x+1")
"""


def names():
    """All names that the examples use, each from the module under which the document lists it."""
    found = {}
    for module in (errors, numbers, polys, division, factors, signs, fields, curves, places, changes, bounds, counts,
                   functions, divisors, spaces, triples, orders, kinds, chains, codes, families, bench):
        for name, value in vars(module).items():
            if getattr(value, "__module__", None) == module.__name__:
                found[name] = value
    exec(CURVES, found)
    return found


class ExamplesTest(unittest.TestCase):
    def test_all(self):
        known = names()
        pieces = EXAMPLES.strip()[4:].split("\n>>> ")
        self.assertEqual(len(pieces), 96)
        for piece in pieces:
            with self.subTest(example=piece):
                line, _, told = piece.partition("\n")
                if not told:
                    exec(line, known)
                elif told.startswith("raises "):
                    self.check_error(line, told.removeprefix("raises "), known)
                else:
                    self.assertEqual(repr(eval(line, known)), told)

    def check_error(self, line, told, known):
        name, sign, value = told.partition("(")
        with self.assertRaises(known[name]) as caught:
            eval(line, known)
        self.assertIs(type(caught.exception), known[name])
        if value:
            kept = list(vars(caught.exception).values())
            self.assertEqual(kept, [eval(sign + value)])


if __name__ == "__main__":
    unittest.main()
