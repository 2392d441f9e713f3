"""[16.1] to [16.3]: a bench."""

import unittest

from tests.plain import NO_INTEGERS, NO_OBJECTS, SIXTY, SIXTY_ONE, Refusals, wrong
from twinsheets.curve.curves import Curve
from twinsheets.curve.places import places_over
from twinsheets.divisor.divisors import Divisor, divisor_of, place_divisor
from twinsheets.divisor.functions import Function
from twinsheets.divisor.spaces import are_alike, size_of
from twinsheets.errors import InvalidCount, InvalidCurve, InvalidDivisor, InvalidFunction, InvalidOperation, NothingToUndo
from twinsheets.errors import Refused, TooMany, UnknownName
from twinsheets.poly.factors import least_irreducible
from twinsheets.poly.polys import Poly
from twinsheets.use import bench as module
from twinsheets.use.bench import Bench, is_pledge
from twinsheets.zeta.counts import class_number, l_of, points_over

QUINT, EVEN = Curve.read(3, "x^5+2x+1"), Curve.read(3, "x^6+2x^5+x^4+1")
NONE, FIVE = Curve.read(3, "2x^6+x+1"), Curve.read(5, "x^5+x+1")
FAR = Curve.read(17, "x^7+x+3")
RIM, SPOT, OTHER = ("rim", 0), ((0, 1), (1,)), ((0, 1), (2,))
D, E = Divisor(QUINT, {RIM: -1, SPOT: 1}), Divisor(QUINT, {RIM: 2, OTHER: 1})
ON_EVEN = Divisor(EVEN, {("rim", 1): 1})
X = Function(QUINT, Poly(3, (0, 1)), Poly(3, ()), Poly(3, (1,)))
ZERO = Function(QUINT, Poly(3, ()), Poly(3, ()), Poly(3, (1,)))
NO_NAMES = (True, False, None, 0, 1, "", "A", "abcdefghi", "a1", "one ", "\n", b"one", (), ("one",), [], ["one"], {}, {"one": 1},
            Poly(3, (1,)), QUINT, D, X)
CURVE_LINE = {"one": "curve one y^2 = x^5+2x+1 over 3", "two": "curve two y^2 = x^6+2x^5+x^4+1 over 3"}
NO_PLEDGES = NO_OBJECTS + (QUINT, "kind", ("kind", "one"), ("kind", "one", "three"), ("kind", "one", "one", 1), ("kind", "ONE", "one"),
                           ("kind", 1, "one"), ("kind", "one", 1), ["kind", "one", "one"], ("points", "one", 1), ("points", "one", 0, 7),
                           ("points", "one", 21, 7), ("points", "one", True, 7), ("points", "one", 1, True), ("points", "one", 1, "7"),
                           ("points", "one", 1, SIXTY_ONE), ("points", "one", None, 7), ("points", "one", 1, 7, 7), ("classes", "one"),
                           ("classes", "one", "29"), ("classes", "one", False), ("classes", "one", SIXTY_ONE), ("classes", "one", 29, 1),
                           ("degree", "d", None), ("degree", "d", True), ("degree", (), 1), ("size", "d", []), ("size", ["d"], 1),
                           ("size", "d", 1, 1), ("alike", "d", 1), ("alike", "d", "E"), ("alike", "d", "e", "f"), ("alike", "d"),
                           ("classes", "one", 29, 1, 1), ("alike", "d", "e", "f", "g"), ("kind", "one", "one", 1, 1), ("points", "one", 1, 7, 1, 1), ("likes", "d", "e"), ("KIND", "one", "one"), (1, "one", "one"), (["kind"], "one", "one"), (("kind",), "one", 1),
                           ("kind", "one", ["one"]), ("alike", "d", ["e"]), ("alike", "d", {"e": 1}), ((), (), ()))


def some():
    """A bench with two curves and three divisors."""
    bench = Bench({"two": EVEN, "one": QUINT})
    bench.mark("d", "one", D)
    bench.mark("e", "one", E)
    bench.mark("far", "two", ON_EVEN)
    return bench


def all_of(bench):
    """All that a bench tells."""
    return bench.lines, bench.names, bench.pledges, bench.changes, str(bench), len(bench), list(bench)


class BenchTest(Refusals, unittest.TestCase):
    def news(self, bench, call, gone, come):
        """The news of a change, which one undo takes back, and one redo does again."""
        before = bench.lines, bench.pledges, bench.changes
        told = call()
        self.assertEqual(told, (tuple(sorted(gone)), tuple(sorted(come))))
        after = bench.lines, bench.pledges, bench.changes
        self.assertEqual(bench.changes, before[2] + 1)
        self.assertEqual(sorted(set(before[0]) - set(gone) | set(come)), sorted(bench.lines))
        self.assertEqual(bench.undo(), (tuple(sorted(come)), tuple(sorted(gone))))
        self.assertEqual((bench.lines, bench.pledges, bench.changes), before)
        self.assertEqual(bench.redo(), told)
        self.assertEqual((bench.lines, bench.pledges, bench.changes), after)

    def kept(self, bench, call, args, error, **told):
        """A refused call changes nothing, what can be undone and done again neither."""
        before, twin = all_of(bench), bench.twin()
        self.refused(call, args, error, **told)
        self.assertEqual(all_of(bench), before)
        self.assertEqual(bench, twin)
        while bench.changes:
            self.assertEqual(bench.undo(), twin.undo())
        count = 0
        while True:
            try:
                told_news = twin.redo()
            except NothingToUndo:
                break
            self.assertEqual(bench.redo(), told_news)
            count += 1
        self.refused(bench.redo, (), NothingToUndo, wanted=1)
        if count > before[3]:
            bench.undo(many=count - before[3])
        self.assertEqual(all_of(bench), before)

    def test_constants(self):
        self.assertEqual((module.MAX_CURVES, module.MAX_DIVISORS, module.MAX_PLEDGES), (6, 12, 10))

    def test_new_bench(self):
        bench = Bench({"two": EVEN, "one": QUINT})
        self.assertEqual(all_of(bench), (("curve one y^2 = x^5+2x+1 over 3", "curve two y^2 = x^6+2x^5+x^4+1 over 3"), ("one", "two"), (), 0,
                                         "bench of 2 curves, 0 divisors, 0 pledges", 0, [CURVE_LINE["one"], CURVE_LINE["two"]]))
        self.assertEqual(bench, Bench({"one": QUINT, "two": EVEN}))
        self.assertEqual(len(Bench({letter: QUINT for letter in "abcdef"}).names), 6)
        for value in ({}, {letter: QUINT for letter in "abcdefg"}, {"One": QUINT}, {1: QUINT}, {"one": QUINT, "": EVEN},
                      {"one": QUINT, ("two",): EVEN}, {"one": None, "Two": EVEN}, {None: None}) + NO_OBJECTS:
            if value != {}:
                self.refused(Bench, (value,), InvalidOperation)
        self.refused(Bench, ({},), InvalidOperation)
        for value in NO_OBJECTS + (D, {}, "one"):
            self.refused(Bench, ({"one": value},), InvalidCurve)
            self.refused(Bench, ({"one": QUINT, "two": value},), InvalidCurve)

    def test_no_state_is_shared(self):
        table = {"one": QUINT}
        bench = Bench(table)
        table["two"] = EVEN
        table["one"] = NONE
        self.assertEqual(bench.lines, (CURVE_LINE["one"],))
        names = {"one": "x"}
        bench.rename(names)
        names["one"] = "y"
        self.assertEqual(bench.names, ("x",))
        lines = list(bench)
        lines.clear()
        self.assertEqual(len(bench.lines), 1)

    def test_put(self):
        bench = Bench({"one": QUINT})
        self.news(bench, lambda: bench.put("two", EVEN), (), (CURVE_LINE["two"],))
        self.news(bench, lambda: bench.put("same", QUINT), (), ("curve same y^2 = x^5+2x+1 over 3",))
        bench.mark("d", "one", D)
        for name in NO_NAMES + ("one", "two", "d"):
            self.kept(bench, bench.put, (name, EVEN), InvalidOperation)
            self.kept(bench, bench.put, (name, None), InvalidOperation)
        for value in NO_OBJECTS + (D, {}):
            self.refused(bench.put, ("new", value), InvalidCurve)
        for name in ("a", "b", "c"):
            bench.put(name, FIVE)
        self.kept(bench, bench.put, ("new", EVEN), TooMany, limit=6)
        self.refused(bench.put, ("new", None), InvalidCurve)
        self.refused(bench.put, ("one", EVEN), InvalidOperation)

    def test_mark(self):
        bench = Bench({"one": QUINT, "two": EVEN})
        self.news(bench, lambda: bench.mark("d", "one", D), (), ("divisor d on one: -(rim 0) + (x: 1)",))
        self.news(bench, lambda: bench.mark("zero", "two", Divisor(EVEN, {})), (), ("divisor zero on two: 0",))
        for name in NO_NAMES + ("one", "two", "d"):
            self.kept(bench, bench.mark, (name, "one", D), InvalidOperation)
            self.refused(bench.mark, (name, "none", None), InvalidOperation)
        for name in NO_NAMES + ("d", "three"):
            self.kept(bench, bench.mark, ("e", name, D), UnknownName, name=name)
            self.refused(bench.mark, ("e", name, None), UnknownName, name=name)
        for value in NO_OBJECTS + (QUINT, {}, {RIM: 1}):
            self.refused(bench.mark, ("e", "one", value), InvalidDivisor)
        self.kept(bench, bench.mark, ("e", "two", D), InvalidOperation)
        self.kept(bench, bench.mark, ("e", "one", ON_EVEN), InvalidOperation)
        for letter in "abcefghijk":
            bench.mark(letter, "one", D)
        self.kept(bench, bench.mark, ("l", "one", D), TooMany, limit=12)
        self.refused(bench.mark, ("l", "two", D), InvalidOperation)
        # The home is told by its name: an equal curve will do.
        again = Bench({"one": Curve.read(3, "x^5+2x+1")})
        again.mark("d", "one", D)
        self.assertEqual(again.divisor_named("d"), D)

    def test_add(self):
        bench = some()
        self.news(bench, lambda: bench.add("sum", "d", "e"), (), ("divisor sum on one: (rim 0) + (x: 1) + (x: 2)",))
        self.news(bench, lambda: bench.add("twice", "far", "far"), (), ("divisor twice on two: 2(rim 1)",))
        self.assertEqual(bench.home_of("twice"), "two")
        for name in NO_NAMES + ("one", "two", "d", "e"):
            self.refused(bench.add, (name, "d", "e"), InvalidOperation)
            self.refused(bench.add, (name, "new", "new"), InvalidOperation)
        for name in NO_NAMES + ("one", "three"):
            self.kept(bench, bench.add, ("new", name, "e"), UnknownName, name=name)
            self.refused(bench.add, ("new", name, "other"), UnknownName, name=name)
            self.refused(bench.add, ("new", "d", name), UnknownName, name=name)
        self.kept(bench, bench.add, ("new", "d", "far"), InvalidOperation)
        # Equal curves under two names are unlike homes.
        bench.put("three", QUINT)
        bench.mark("f", "three", D)
        self.kept(bench, bench.add, ("new", "d", "f"), InvalidOperation)
        bench.mark("great", "one", Divisor(QUINT, {SPOT: 200}))
        self.kept(bench, bench.add, ("new", "d", "great"), TooMany, limit=200)
        bench.add("near", "great", "e")
        for letter in "abcg":
            bench.mark(letter, "one", D)
        self.kept(bench, bench.add, ("new", "d", "great"), TooMany, limit=12)
        self.refused(bench.add, ("new", "d", "far"), InvalidOperation)

    def test_carry(self):
        bench = some()
        self.news(bench, lambda: bench.carry("d", X), ("divisor d on one: -(rim 0) + (x: 1)",),
                  ("divisor d on one: -3(rim 0) + 2(x: 1) + (x: 2)",))
        # What a residue carries stays as it is; it is a change all the same.
        self.news(bench, lambda: bench.carry("e", X.over(X)), (), ())
        for name in NO_NAMES + ("one", "new"):
            self.kept(bench, bench.carry, (name, X), UnknownName, name=name)
            self.refused(bench.carry, (name, None), UnknownName, name=name)
        for value in NO_OBJECTS + (QUINT, D, {}):
            self.refused(bench.carry, ("d", value), InvalidFunction)
        for value in (ZERO, Function(EVEN, Poly(3, (1,)), Poly(3, ()), Poly(3, (1,))), Function(EVEN, *[Poly(3, ())] * 2, Poly(3, (1,)))):
            self.kept(bench, bench.carry, ("d", value), InvalidOperation)
        nine = least_irreducible(3, 9)
        self.kept(bench, bench.carry, ("d", Function(QUINT, nine, Poly(3, ()), Poly(3, (1,)))), TooMany, limit=8)
        self.kept(bench, bench.carry, ("d", X.power(60) * X.power(41)), TooMany, limit=200)
        # The divisor of the function is well, the sum is not.
        self.assertEqual(divisor_of(X.power(60) * X.power(40)).at(RIM), -200)
        self.kept(bench, bench.carry, ("d", X.power(60) * X.power(40)), TooMany, limit=200)
        before = bench.divisor_named("d")
        y = Function(QUINT, Poly(3, (1, 1)), Poly(3, (1,)), Poly(3, (0, 1)))
        bench.carry("d", y)
        after = bench.divisor_named("d")
        self.assertTrue(are_alike(before, after))
        self.assertEqual((before.degree, size_of(before)), (after.degree, size_of(after)))
        self.assertEqual(after - before, divisor_of(y))

    def test_turn(self):
        bench = some()
        self.news(bench, lambda: bench.turn("d"), ("divisor d on one: -(rim 0) + (x: 1)",), ("divisor d on one: -(rim 0) + (x: 2)",))
        self.news(bench, lambda: bench.turn("far"), ("divisor far on two: (rim 1)",), ("divisor far on two: (rim 2)",))
        self.assertEqual((bench.divisor_named("d"), bench.home_of("far")), (D.opposite(), "two"))
        bench.mark("same", "one", Divisor(QUINT, {RIM: 5}))
        self.news(bench, lambda: bench.turn("same"), (), ())
        for name in NO_NAMES + ("one", "new"):
            self.kept(bench, bench.turn, (name,), UnknownName, name=name)
        # [16.3]: the degree and the size stay, and both together are alike with a divisor of the rim.
        for divisor in (D, E, Divisor(QUINT, {SPOT: 3, ((1, 0, 1), (1,)): -1}), Divisor(NONE, {NONE.points()[0]: 2})):
            turned = divisor.opposite()
            self.assertEqual((divisor.degree, size_of(divisor)), (turned.degree, size_of(turned)))
            total = divisor + turned
            rim = divisor.curve.rims[0]
            many = total.degree // (2 if rim == ("rim", -1) else 1)
            self.assertTrue(are_alike(total, Divisor(divisor.curve, {rim: many})))

    def test_twist(self):
        bench = some()
        bench.put("free", QUINT)
        self.news(bench, lambda: bench.twist("free"), ("curve free y^2 = x^5+2x+1 over 3",), ("curve free y^2 = 2x^5+x+2 over 3",))
        for name in NO_NAMES + ("d", "new"):
            self.kept(bench, bench.twist, (name,), UnknownName, name=name)
        for name in ("one", "two"):
            self.kept(bench, bench.twist, (name,), InvalidOperation)
        bench.drop("far")
        bench.twist("two")
        self.assertEqual(bench.curve_named("two"), EVEN.twist())
        for curve in (QUINT, EVEN, NONE, FIVE):
            twisted = curve.twist()
            self.assertEqual(l_of(twisted.twist()), l_of(curve))
            self.assertEqual(len(curve.points()) + len(twisted.points()), 2 * curve.prime + 2)

    def test_drop(self):
        bench = some()
        self.news(bench, lambda: bench.drop("d"), ("divisor d on one: -(rim 0) + (x: 1)",), ())
        for name in NO_NAMES + ("d", "new"):
            self.kept(bench, bench.drop, (name,), UnknownName, name=name)
        for name in ("one", "two"):
            self.kept(bench, bench.drop, (name,), InvalidOperation)
        bench.drop("far")
        self.news(bench, lambda: bench.drop("two"), (CURVE_LINE["two"],), ())
        self.kept(bench, bench.drop, ("one",), InvalidOperation)
        bench.drop("e")
        self.kept(bench, bench.drop, ("one",), InvalidOperation)
        bench.put("two", EVEN)
        bench.drop("one")
        self.assertEqual(bench.names, ("two",))

    def test_rename(self):
        bench = some()
        names = {"one": "two", "two": "one", "d": "e", "e": "d", "far": "near"}
        before = bench.lines
        told = bench.rename(names)
        self.assertEqual(bench.lines, ("curve one y^2 = x^6+2x^5+x^4+1 over 3", "curve two y^2 = x^5+2x+1 over 3",
                                       "divisor d on two: 2(rim 0) + (x: 2)", "divisor e on two: -(rim 0) + (x: 1)",
                                       "divisor near on one: (rim 1)"))
        self.assertEqual(told, (tuple(sorted(before)), tuple(sorted(bench.lines))))
        self.assertEqual((bench.home_of("near"), bench.changes), ("one", 4))
        self.news(bench, lambda: bench.rename({name: name for name in bench.names}), (), ())
        good = {name: name for name in bench.names}
        for value in NO_OBJECTS + ({**good, "more": "more"}, {"one": "x"}, {**good, "one": "two"}, {**good, "one": "One"}, {**good, "one": 1},
                                   {**good, "one": ["x"]}, {**good, "one": None}, [("one", "two")], "names", QUINT,
                                   {(1 if name == "one" else name): name for name in good}):
            self.kept(bench, bench.rename, (value,), InvalidOperation)

    def test_is_pledge(self):
        for value in (("kind", "one", "one"), ("kind", "a", "two"), ("kind", "abcdefgh", "none"), ("points", "one", 1, 7), ("points", "x", 20, -SIXTY),
                      ("classes", "one", 29), ("classes", "one", 0), ("degree", "d", -5), ("size", "d", SIXTY), ("alike", "d", "e"),
                      ("alike", "d", "d"), ("degree", "kind", 0)):
            self.assertIs(is_pledge(value), True)
        for value in NO_PLEDGES:
            self.assertIs(is_pledge(value), False)

    def test_demands(self):
        bench = some()
        good = [("kind", "one", "one"), ("kind", "two", "two"), ("points", "one", 1, 7), ("points", "two", 2, points_over(EVEN, 2)),
                ("points", "one", 20, points_over(QUINT, 20)), ("classes", "one", 29), ("degree", "d", 0), ("size", "d", 0),
                ("alike", "d", "d"), ("size", "e", size_of(E))]
        bad = [("kind", "one", "two"), ("kind", "d", "one"), ("kind", "three", "one"), ("points", "one", 1, 8), ("points", "d", 1, 7),
               ("points", "three", 1, 7), ("classes", "one", 28), ("classes", "d", 29), ("classes", "three", 29), ("degree", "d", 1),
               ("degree", "one", 0), ("degree", "three", 0), ("size", "d", 1), ("size", "one", 0), ("size", "three", 0), ("alike", "d", "e"),
               ("alike", "d", "far"), ("alike", "d", "one"), ("alike", "three", "d"), ("alike", "d", "three"), ("alike", "one", "one")]
        for pledge in bad:
            self.kept(bench, bench.demand, (pledge,), Refused, reason=pledge)
        for value in NO_PLEDGES:
            self.kept(bench, bench.demand, (value,), InvalidOperation)
        for at, pledge in enumerate(good):
            self.assertIs(pledge in bench, False)
            self.news(bench, lambda: bench.demand(pledge), (), ())
            self.assertIs(pledge in bench, True)
            self.assertEqual((bench.pledges, len(bench)), (tuple(good[:at + 1]), at + 1))
            self.kept(bench, bench.demand, (pledge,), InvalidOperation)
        for pledge in (("size", "far", 1), ("kind", "one", "two")):
            self.kept(bench, bench.demand, (pledge,), TooMany, limit=10)
        self.refused(bench.demand, (good[0],), InvalidOperation)
        self.assertEqual(str(bench), "bench of 2 curves, 3 divisors, 10 pledges")
        for value in NO_PLEDGES + (("size", "far", 1), ("points", "one", True, 7), ("degree", "d", False)):
            self.assertIs(value in bench, False)
            self.kept(bench, bench.waive, (value,), InvalidOperation)
        self.news(bench, lambda: bench.waive(good[3]), (), ())
        self.assertEqual(bench.pledges, tuple(good[:3] + good[4:]))
        self.kept(bench, bench.waive, (good[3],), InvalidOperation)
        bench.demand(good[3])
        self.assertEqual(bench.pledges, tuple(good[:3] + good[4:] + good[3:4]))

    def test_pledges_of_curves_too_great(self):
        bench = Bench({"far": FAR, "one": QUINT})
        for pledge in (("points", "far", 1, len(FAR)), ("classes", "far", 4913)):
            self.kept(bench, bench.demand, (pledge,), Refused, reason=pledge)
        bench.demand(("kind", "far", "one"))
        bench.mark("d", "far", Divisor(FAR, {("rim", 0): 7}))
        bench.demand(("size", "d", 5))

    def test_pledges_that_are_kept(self):
        bench = some()
        for pledge in (("degree", "d", 0), ("size", "d", 0), ("kind", "two", "two"), ("points", "two", 1, 6), ("degree", "far", 1),
                       ("alike", "e", "e")):
            bench.demand(pledge)
        for call, args, first in ((bench.drop, ("d",), ("degree", "d", 0)), (bench.drop, ("far",), ("degree", "far", 1)),
                                  (bench.drop, ("e",), ("alike", "e", "e"))):
            self.kept(bench, call, args, Refused, reason=first)
        bench.turn("d")
        bench.carry("d", X)
        self.kept(bench, bench.rename, ({"one": "one", "two": "x", "d": "y", "e": "z", "far": "far"},), Refused, reason=("degree", "d", 0))
        self.kept(bench, bench.rename, ({"one": "one", "two": "x", "d": "d", "e": "z", "far": "far"},), Refused, reason=("kind", "two", "two"))
        # Others can take the names, if the pledges hold of them.
        self.kept(bench, bench.rename, ({"one": "two", "two": "one", "d": "d", "e": "e", "far": "far"},), Refused, reason=("kind", "two", "two"))
        bench.mark("also", "two", Divisor(EVEN, {("rim", 2): 1}))
        bench.rename({"one": "one", "two": "two", "d": "d", "e": "e", "far": "also", "also": "far"})
        self.assertEqual(bench.divisor_named("far").table, {("rim", 2): 1})
        self.assertEqual(len(bench.pledges), 6)

    def test_pledges_of_homes(self):
        bench = Bench({"one": QUINT, "two": QUINT})
        bench.mark("d", "one", D)
        bench.mark("e", "two", D)
        # They are alike, but with unlike homes.
        self.kept(bench, bench.demand, (("alike", "d", "e"),), Refused, reason=("alike", "d", "e"))
        bench.mark("f", "one", D + divisor_of(X))
        bench.demand(("alike", "d", "f"))
        self.kept(bench, bench.rename, ({"one": "one", "two": "two", "d": "d", "e": "f", "f": "e"},), Refused, reason=("alike", "d", "f"))
        for call in (lambda: bench.turn("d"), lambda: bench.turn("f"), lambda: bench.drop("f")):
            self.kept(bench, call, (), Refused, reason=("alike", "d", "f"))
        bench.carry("f", X)
        bench.carry("d", X.power(-3))
        bench.waive(("alike", "d", "f"))
        bench.turn("f")

    def test_pledges_of_twists(self):
        bench = Bench({"one": QUINT, "two": EVEN})
        bench.demand(("kind", "one", "one"))
        bench.twist("one")
        bench.demand(("classes", "one", class_number(QUINT.twist())))
        bench.demand(("points", "one", 2, points_over(QUINT, 2)))
        self.kept(bench, bench.twist, ("one",), Refused, reason=("classes", "one", 5))
        bench.waive(("classes", "one", 5))
        bench.twist("one")
        bench.demand(("kind", "two", "two"))
        self.kept(bench, bench.twist, ("two",), Refused, reason=("kind", "two", "two"))
        self.kept(bench, bench.drop, ("two",), Refused, reason=("kind", "two", "two"))
        # Its own errors come ahead.
        bench.mark("d", "two", ON_EVEN)
        self.kept(bench, bench.drop, ("two",), InvalidOperation)
        self.kept(bench, bench.twist, ("two",), InvalidOperation)

    def test_order_of_demands(self):
        first, second = ("size", "d", 0), ("degree", "d", 0)
        for order in ((first, second), (second, first)):
            bench = some()
            for pledge in order:
                bench.demand(pledge)
            self.kept(bench, bench.drop, ("d",), Refused, reason=order[0])
            bench.waive(order[0])
            self.kept(bench, bench.drop, ("d",), Refused, reason=order[1])
            bench.waive(order[1])
            bench.drop("d")

    def test_undo_and_redo(self):
        bench = Bench({"one": QUINT})
        states = [all_of(bench)]
        for call in (lambda: bench.put("two", EVEN), lambda: bench.mark("d", "one", D), lambda: bench.demand(("degree", "d", 0)),
                     lambda: bench.carry("d", X), lambda: bench.waive(("degree", "d", 0)), lambda: bench.twist("two"),
                     lambda: bench.rename({"one": "two", "two": "one", "d": "e"}), lambda: bench.turn("e"), lambda: bench.drop("one"),
                     lambda: bench.add("f", "e", "e")):
            call()
            states.append(all_of(bench))
        top = len(states) - 1
        for low in range(top + 1):
            for high in range(low, top + 1):
                news = bench.undo(many=top - low)
                self.assertEqual(all_of(bench), states[low])
                self.assertEqual(news, self.told(states[top][0], states[low][0]))
                news = bench.redo(many=high - low)
                self.assertEqual(all_of(bench), states[high])
                self.assertEqual(news, self.told(states[low][0], states[high][0]))
                self.refused(lambda: bench.undo(many=high + 1), (), NothingToUndo, wanted=high + 1)
                self.refused(lambda: bench.redo(many=top - high + 1), (), NothingToUndo, wanted=top - high + 1)
                self.assertEqual(all_of(bench), states[high])
                bench.redo(many=top - high)
        self.assertEqual((bench.undo(many=0), bench.redo(many=0)), (((), ()), ((), ())))
        for call in (bench.undo, bench.redo):
            for value in (-1, -SIXTY) + NO_INTEGERS:
                self.refused(lambda: call(many=value), (), InvalidCount, value=value)
            self.refused(lambda: call(many=SIXTY), (), NothingToUndo, wanted=SIXTY)
            self.assertRaises(TypeError, call, 1)
        # Another change ends what can be done again, also if all stays equal; a refused one does not.
        bench.undo(many=3)
        self.refused(bench.drop, ("new",), UnknownName, name="new")
        bench.undo(many=0)
        bench.redo(many=3)
        bench.undo(many=3)
        bench.rename({name: name for name in bench.names})
        self.refused(bench.redo, (), NothingToUndo, wanted=1)
        self.assertEqual(bench.redo(many=0), ((), ()))

    def told(self, before, after):
        return tuple(sorted(set(before) - set(after))), tuple(sorted(set(after) - set(before)))

    def test_pledges_come_back(self):
        bench = some()
        pledge = ("degree", "d", 0)
        bench.demand(pledge)
        bench.waive(pledge)
        bench.drop("d")
        bench.undo(many=2)
        self.assertEqual(bench.pledges, (pledge,))
        self.kept(bench, bench.drop, ("d",), Refused, reason=pledge)
        bench.redo(many=2)
        self.assertEqual((bench.pledges, "d" in bench.names), ((), False))

    def test_trials(self):
        bench = some()
        bench.turn("d")
        bench.undo()
        before, twin = all_of(bench), bench.twin()
        with bench.trial() as same:
            self.assertIs(same, bench)
            same.drop("d")
            same.demand(("kind", "one", "one"))
            with bench.trial() as inner:
                inner.undo(many=4)
                self.assertEqual(bench.changes, 1)
                inner.put("new", NONE)
            self.assertEqual((bench.changes, len(bench), "new" in bench.names), (5, 1, False))
            self.assertEqual(bench.undo(), ((), ()))
        self.assertEqual(all_of(bench), before)
        self.assertEqual(bench.redo(), twin.redo())
        bench.undo()
        for error in (ValueError, KeyError, Refused):
            with self.assertRaises(error):
                with bench.trial():
                    bench.undo(many=3)
                    bench.put("new", NONE)
                    raise error("x")
            self.assertEqual(all_of(bench), before)
        with self.assertRaises(UnknownName):
            with bench.trial():
                bench.drop("e")
                with bench.trial():
                    bench.drop("d")
                    bench.drop("none")
        self.assertEqual(all_of(bench), before)
        self.assertEqual(bench.redo(), (("divisor d on one: -(rim 0) + (x: 1)",), ("divisor d on one: -(rim 0) + (x: 2)",)))
        bench.undo()
        # As it was when the block was entered, not when the trial was asked for.
        later = bench.trial()
        bench.drop("far")
        middle = all_of(bench)
        with later:
            bench.undo(many=2)
        self.assertEqual(all_of(bench), middle)

    def test_during(self):
        bench = some()
        before = all_of(bench)
        self.assertEqual(bench.during(lambda same: (same is bench, same.drop("d"), same.changes)),
                         (True, (("divisor d on one: -(rim 0) + (x: 1)",), ()), 4))
        self.assertEqual(all_of(bench), before)
        self.assertIsNone(bench.during(lambda same: None))
        with self.assertRaises(UnknownName):
            bench.during(lambda same: [same.drop("d"), same.drop("d")])
        self.assertEqual(all_of(bench), before)
        self.assertEqual(bench.during(lambda same: same.during(lambda inner: [inner.drop("e"), inner.changes][1])), 4)
        self.assertEqual(all_of(bench), before)

    def test_twins(self):
        bench = some()
        bench.demand(("degree", "d", 0))
        bench.turn("d")
        bench.undo()
        twin = bench.twin()
        self.assertIsNot(twin, bench)
        self.assertEqual(all_of(twin), all_of(bench))
        before = all_of(bench)
        twin.drop("e")
        twin.waive(("degree", "d", 0))
        self.assertEqual(all_of(bench), before)
        self.assertNotEqual(twin, bench)
        bench.redo()
        self.refused(twin.redo, (), NothingToUndo, wanted=1)
        twin.undo(many=6)
        self.assertEqual(twin.names, ("one", "two"))
        self.assertEqual(bench.changes, 5)

    def test_values_in_a_bench(self):
        bench = some()
        bench.demand(("points", "one", 1, 7))
        for line in bench.lines:
            self.assertIs(line in bench, True)
        self.assertEqual(list(bench), list(bench.lines))
        for value in NO_OBJECTS + ("", "one", "d", bench.lines, [bench.lines[0]], bench.lines[0] + " ", QUINT, D, ("points", "one", True, 7),
                                   ("points", "one", 1, 8), ["points", "one", 1, 7], bench, "curve one y^2 = x over 3"):
            self.assertIs(value in bench, False)
        self.assertIs(("points", "one", 1, 7) in bench, True)

    def test_equal(self):
        bench = some()
        other = Bench({"one": QUINT, "two": EVEN})
        other.mark("far", "two", ON_EVEN)
        other.mark("e", "one", E)
        self.assertFalse(bench == other)
        other.mark("d", "one", D)
        self.assertTrue(bench == other and not bench != other)
        for call in (lambda one: one.demand(("degree", "d", 0)), lambda one: one.turn("d"), lambda one: one.put("x", NONE),
                     lambda one: one.drop("d"), lambda one: one.rename({name: name + "x" for name in one.names})):
            twin = bench.twin()
            call(twin)
            self.assertIs(bench == twin, False)
            self.assertIs(bench != twin, True)
            twin.undo()
            self.assertTrue(bench == twin)
        # The order of demands counts.
        one, two = bench.twin(), bench.twin()
        for first, second, told in ((("degree", "d", 0), ("size", "d", 0), one), (("size", "d", 0), ("degree", "d", 0), two)):
            told.demand(first)
            told.demand(second)
        self.assertFalse(one == two)
        # So do homes with equal curves.
        one, two = Bench({"a": QUINT, "b": QUINT}), Bench({"a": QUINT, "b": QUINT})
        one.mark("d", "a", D)
        two.mark("d", "b", D)
        self.assertFalse(one == two)
        for value in NO_OBJECTS + (bench.lines, QUINT, str(bench), {"one": QUINT, "two": EVEN}):
            self.assertIs(bench == value, False)

    def test_named(self):
        bench = some()
        self.assertEqual((bench.curve_named("one"), bench.curve_named("two")), (QUINT, EVEN))
        self.assertEqual((bench.divisor_named("d"), bench.home_of("d"), bench.home_of("far")), (D, "one", "two"))
        for name in NO_NAMES + ("new",):
            for call in (bench.curve_named, bench.divisor_named, bench.home_of):
                self.refused(call, (name,), UnknownName, name=name)
        self.refused(bench.curve_named, ("d",), UnknownName, name="d")
        for call in (bench.divisor_named, bench.home_of):
            self.refused(call, ("one",), UnknownName, name="one")

    def test_lines_are_in_order(self):
        bench = Bench({"b": QUINT, "ab": EVEN})
        bench.mark("aa", "b", D)
        bench.mark("a", "ab", ON_EVEN)
        bench.mark("c", "ab", -ON_EVEN)
        self.assertEqual([line.split()[:2] for line in bench.lines],
                         [["curve", "ab"], ["curve", "b"], ["divisor", "a"], ["divisor", "aa"], ["divisor", "c"]])
        self.assertEqual(bench.names, ("a", "aa", "ab", "b", "c"))
        spot = places_over(EVEN, Poly(3, (2, 1)))[0]
        bench.mark("d", "ab", place_divisor(EVEN, spot))
        self.assertEqual(bench.lines[-1], "divisor d on ab: (x+2: none)")


if __name__ == "__main__":
    unittest.main()
