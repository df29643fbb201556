"""Points 45 and 46: the functions of the language, and join expressions."""

import unittest
from fractions import Fraction
from itertools import product

from fontwinding.errors import DivisionByZero, OutOfRange, TooGreat, TooMany, UnknownValue, WrongKind
from fontwinding.joins import join_points
from fontwinding.outlines import outline
from fontwinding.winding import double_area
from tests.programs import OPEN, ProgramCase, form, run
from tests.support import points

KNOWN = {"numeric": "1", "pair": "(3, 4)", "path": "((0, 0) -- (4, 0) .. (1, 3) -- cycle)", "transform": "identity",
         "truth": "true"}
PATHS = ("path", "pair")
# The kinds of the arguments of each function, and True if all of them must be known.
TAKEN = {
    "floor": ([("numeric",)], True), "round": ([("numeric",)], True),
    "min": ([("numeric", "numeric")], True), "max": ([("numeric", "numeric")], True),
    "xpart": ([("pair",)], False), "ypart": ([("pair",)], False), "known": ([("numeric",), ("pair",)], False),
    "dot": ([("pair", "pair")], True),
    "way": ([("numeric", "numeric", "numeric"), ("numeric", "pair", "pair")], False),
    "length": ([(p,) for p in PATHS], True), "point": ([("numeric", p) for p in PATHS], True),
    "subpath": ([("numeric", "numeric", p) for p in PATHS], True), "reverse": ([(p,) for p in PATHS], True),
    "winding": ([("path", "pair")], True), "area": ([("path",)], True), "inverse": ([("transform",)], True),
    "top": ([("pair",)], False), "bot": ([("pair",)], False), "lft": ([("pair",)], False), "rt": ([("pair",)], False),
}
COUNTS = {word: len(taken[0][0]) for word, taken in TAKEN.items()}
TAKE = "def f(t) = enddef; f({});"
GREAT = "(100000000000000 * 10000)"
BENT = "((0, 0) .. controls (0, 4) and (4, 4) .. (4, 0))"
BOX = "((0, 0) -- (4, 0) -- (4, 2) -- (0, 2) -- cycle)"


class KindsTest(ProgramCase):
    def test_all_kinds_of_arguments(self):
        for word, (taken, _) in TAKEN.items():
            for kinds in product(KNOWN, repeat=COUNTS[word]):
                text = TAKE.format(f"{word}({', '.join(KNOWN[kind] for kind in kinds)})")
                if kinds in taken:
                    run(text)
                else:
                    # A pair for a cycle, too, is refused by this error.
                    self.fails(WrongKind, text)

    def test_knowledge(self):
        for word, (taken, must_be_known) in TAKEN.items():
            for kinds in taken:
                for at, kind in enumerate(kinds):
                    if kind not in ("numeric", "pair"):
                        continue
                    arguments = [KNOWN[k] for k in kinds]
                    arguments[at] = {"numeric": "u", "pair": "(1, u)"}[kind]
                    text = TAKE.format(f"{word}({', '.join(arguments)})")
                    if must_be_known:
                        self.fails(UnknownValue, text)
                    else:
                        run(text)

    def test_the_kinds_come_before_the_knowledge(self):
        for text in ("min(u, true)", "dot((u, 1), 1)", "way(true, u, u)", "way(u, v, (1, 1))", "way(u, (1, 1), v)",
                     "point(u, 1)", "subpath(u, v, identity)", "winding((u, 1), 1)", "winding(1, (u, 1))", "xpart(u)",
                     "way(u, true, true)", "way((1, 1), u, v)"):
            self.fails(WrongKind, f"show {text};")
        # A pair is a path that is no cycle; this comes behind the knowledge.
        self.fails(UnknownValue, "show winding((1, 1), (u, 1));")
        self.fails(UnknownValue, "show winding((u, 1), (1, 1));")
        self.fails(UnknownValue, "show area((u, 1));")
        self.fails(UnknownValue, "show winding((0, 0) -- (1, 1), (u, 1));")


class NumberTest(ProgramCase):
    def test_floor_and_round(self):
        for a, low, near in (("5 / 2", 2, 3), ("-5 / 2", -3, -2), ("7 / 3", 2, 2), ("-7 / 3", -3, -2), ("3", 3, 3),
                             ("8 / 3", 2, 3), (GREAT, 10 ** 18, 10 ** 18), (f"-{GREAT}", -10 ** 18, -10 ** 18),
                             (f"1 / {GREAT}", 0, 0), (f"-1 / {GREAT}", -1, 0)):
            self.evaluates(f"floor({a})", low)
            self.evaluates(f"round({a})", near)

    def test_min_and_max(self):
        for a, b in product((-1, 0, Fraction(1, 2), 3), repeat=2):
            self.evaluates(f"min({a}, {b})", min(a, b))
            self.evaluates(f"max({a}, {b})", max(a, b))

    def test_known_unknowns(self):
        self.shows("a + b = 5; a = 5 / 2; show floor(a); show round(b); show min(a, b);", 2, 3, Fraction(5, 2))


class PairTest(ProgramCase):
    def test_parts(self):
        self.evaluates("xpart((1, 2))", 1)
        self.evaluates("ypart((1, 2))", 2)
        machine = run("a = xpart(z1); b = ypart(z1 + (1, 2));")
        self.assertEqual(machine.value("x", 1), ("numeric", form(0, u0=1)))
        self.assertEqual(machine.value("b"), ("numeric", form(2, u2=1)))

    def test_known(self):
        for text, wanted in (("1", 1), ("(1, 2)", 1), ("a", 0), ("(a, 1)", 0), ("(1, a)", 0), ("a - a", 1), ("z", 0),
                             ("0 * a", 1), ("whatever", 0)):
            self.evaluates(f"known({text})", wanted)
        self.shows("a = 1; show known(a); show known(b); a + b = 3; show known(b); c = d; show known(c); "
                   "show known(c - d);", 1, 0, 1, 0, 1)

    def test_dot(self):
        self.evaluates("dot((1, 2), (3, 4))", 11)
        self.evaluates("dot((1, 2), (-2, 1))", 0)
        self.fails(TooGreat, f"show dot(({GREAT}, 0), (2, 0));")
        self.fails(TooGreat, f"show dot(({GREAT}, 1), (1, 1));")
        self.evaluates(f"dot(({GREAT}, 1), (1, -1))", 10 ** 18 - 1)

    def test_way(self):
        self.evaluates("way(1 / 2, 1, 4)", Fraction(5, 2))
        self.evaluates("way(0, 1, 4)", 1)
        self.evaluates("way(1, 1, 4)", 4)
        self.evaluates("way(-1, 1, 4)", -2)
        self.evaluates("way(1 / 4, (0, 4), (8, 0))", 2, 3)
        self.shows("z1 = (2, 3); z2 = z1 + (4, 0); z3 = way(1 / 2, z1, z2); show z3;", 4, 3)
        self.shows("way(1 / 2, a, 3) = 5; show a;", 7)
        self.shows("way(a, 2, 4) = 5; show a;", Fraction(3, 2))
        self.shows("z1 = (2, 3); z2 = way(whatever, (0, 0), (4, 6)); x2 = 1; show z2;", 1, Fraction(3, 2))
        self.shows("a - b = 4; c = way(d, a, b); c = a - 2; show d;", Fraction(1, 2))
        for wrong in ("a, b, c", "a, 1, c", "a, (b, 1), (2, 2)", "a, z1, z2", "a, (1, 1), (2, b)"):
            self.fails(UnknownValue, f"show way({wrong});")

    def test_way_too_great(self):
        self.fails(TooGreat, f"show way(0, -{GREAT}, {GREAT});")
        self.fails(TooGreat, f"show way({GREAT}, 0, 2);")
        self.fails(TooGreat, f"show way(1, {GREAT}, {GREAT} - 1) + way({GREAT}, 1, 2);")
        # The difference of b and a comes first, and the product is refused for its knowledge only then.
        self.fails(TooGreat, f"show way(u, (-{GREAT}, v), ({GREAT}, 0));")
        self.fails(UnknownValue, "show way(u, (1, v), (2, 0));")


class PathTest(ProgramCase):
    def test_length(self):
        for path, wanted in ((BENT, 1), (BOX, 4), ("((1, 1) -- cycle)", 1), ("(1, 1)", 0), ("z", 0)):
            self.shows(f"z = (1, 2); show length({path});", wanted)

    def test_point(self):
        self.evaluates(f"point(1 / 2, {BENT})", 2, 3)
        self.evaluates(f"point(0, {BENT})", 0, 0)
        self.evaluates(f"point(5, {BENT})", 4, 0)
        self.evaluates(f"point(-1, {BENT})", 0, 0)
        self.evaluates(f"point(3 / 2, {BOX})", 4, 1)
        self.evaluates(f"point(7, {BOX})", 0, 2)
        self.evaluates(f"point(-1, {BOX})", 0, 2)
        self.evaluates("point(3, (5, 6))", 5, 6)

    def test_subpath(self):
        self.shows(f"declare path p; p := subpath(1 / 2, 5 / 2, {BOX}); show length(p); show point(0, p); "
                   "show point(1, p); show point(3, p); show point(1 / 2, p);", 3, 2, 0, 4, 0, 2, 2, 3, 0)
        self.shows("declare path p; p := subpath(0, 1, (5, 6)); show length(p); show point(0, p);", 0, 5, 6)
        self.shows(f"declare path p; p := subpath(1, 0, {BENT}); show point(0, p); show point(1, p);", 4, 0, 0, 0)
        self.fails(TooMany, f"show length(subpath(0, 24, {BOX}));")
        self.evaluates(f"length(subpath(0, 23, {BOX}))", 23)
        self.fails(WrongKind, f"show subpath(0, 1, {BOX});")

    def test_reverse(self):
        self.shows(f"declare path p; p := reverse({BENT}); show point(0, p); show point(1, p);", 4, 0, 0, 0)
        self.evaluates(f"point(1, reverse({BOX}))", 0, 2)
        self.evaluates("length(reverse((1, 2)))", 0)

    def test_winding(self):
        self.evaluates(f"winding({BOX}, (1, 1))", 1)
        self.evaluates(f"winding(reverse({BOX}), (1, 1))", -1)
        self.evaluates(f"winding({BOX}, (5, 1))", 0)
        self.evaluates(f"winding({BOX}, (0, 0))", 1)
        self.evaluates(f"winding({BOX}, (4, 0))", 0)
        self.evaluates(f"winding({BOX}, (-1 / 64, 1))", 0)
        self.evaluates(f"winding({BOX}, (-1 / 129, 1))", 1)
        self.evaluates("winding((0, 0) -- (4, 0) -- (4, 4) -- (0, 4) -- (0, 0) -- (4, 0) -- (4, 4) -- (0, 4) -- cycle, "
                       "(1, 1))", 2)
        for wrong in (BENT, "(1, 1)", f"subpath(0, 4, {BOX})"):
            self.fails(WrongKind, f"show winding({wrong}, (1, 1));")
            self.fails(WrongKind, f"show area({wrong});")

    def test_area(self):
        self.evaluates(f"area({BOX})", 8)
        self.evaluates(f"area(reverse({BOX}))", -8)
        self.evaluates("area((0, 0) -- (1, 0) -- (0, 1) -- cycle)", Fraction(1, 2))
        self.evaluates("area((1, 1) -- cycle)", 0)
        curve = join_points(points((0, 0), (4, 0), (2, 3)), [("smooth", (1, 1))] * 3, cycle=True)
        self.evaluates("area((0, 0) .. (4, 0) .. (2, 3) .. cycle)", Fraction(double_area(outline(curve)), 8192))
        far = "(100000000000000 * 1000)"
        self.fails(TooGreat, f"show area((0, 0) -- ({far}, 0) -- (0, {far}) -- cycle);")
        self.evaluates("area((0, 0) -- (100000000, 0) -- (0, 100000000) -- cycle)", Fraction(10 ** 16, 2))

    def test_inverse(self):
        self.evaluates("inverse(identity shifted (3, 4))", -3, -4, 1, 0, 0, 1)
        self.evaluates("inverse(identity scaled 4)", 0, 0, Fraction(1, 4), 0, 0, Fraction(1, 4))
        self.evaluates("(7, 8) transformed (identity slanted 2 rotated 90) transformed "
                       "inverse(identity slanted 2 rotated 90)", 7, 8)
        self.fails(DivisionByZero, "show inverse(identity xscaled 0);")
        self.fails(TooGreat, f"show inverse(identity scaled {GREAT});")


class PenTest(ProgramCase):
    PEN = OPEN + "pickup (-1, -2) -- (3, -2) -- (4, 5) -- (-3 / 4, 1); "

    def test_the_pen_of_one_corner(self):
        for word in ("top", "bot", "lft", "rt"):
            self.evaluates(f"{word}((3, 4))", 3, 4)

    def test_sides(self):
        for word, x, y in (("top", 10, 25), ("bot", 10, 18), ("lft", 9, 20), ("rt", 14, 20)):
            self.evaluates(f"{word}((10, 20))", x, y, before=self.PEN)

    def test_64ths(self):
        pen = OPEN + "pickup (1 / 3, 1 / 3) -- (-1 / 3, -1 / 3); "
        self.evaluates("top((0, 0))", 0, Fraction(21, 64), before=pen)
        self.evaluates("lft((1, 2))", Fraction(64 - 21, 64), 2, before=pen)

    def test_unknown_pairs(self):
        machine = run(self.PEN + "top(z1) = lft(z2); bot(z1) = (3, 4);")
        self.assertEqual(machine.value("y", 1)[1], form(6))
        self.shows(self.PEN + "bot(z1) = (3, 4); rt(z2) = z1; show z1; show z2;", 3, 6, -1, 6)

    def test_the_pen_now(self):
        self.shows(self.PEN + "show top((0, 0)); pickup (0, 0); show top((0, 0)); endchar; show rt((1, 1));",
                   0, 5, 0, 0, 1, 1)
        self.shows(self.PEN + "endchar; show rt((1, 1)); " + OPEN + "show rt((1, 1));", 5, 1, 1, 1)

    def test_too_great(self):
        self.fails(TooGreat, self.PEN + f"show top((0, {GREAT}));")
        self.fails(TooGreat, self.PEN + f"show lft((-{GREAT}, 0));")
        self.shows(self.PEN + f"show lft(({GREAT}, 0));", 10 ** 18 - 1, 0)
        self.shows(OPEN + f"pickup (-{GREAT}, {GREAT}); show top((0, 0)); show lft((0, 0));", 0, 10 ** 18, -10 ** 18, 0)


class JoinTest(ProgramCase):
    def joined(self, text, pairs, joins, cycle=False):
        machine = run(f"declare path p; p := {text};")
        self.assertEqual(machine.value("p"), ("path", join_points(points(*pairs), joins, cycle=cycle)), text)

    def test_each_kind_of_join(self):
        two = ((0, 0), (3, 4))
        controls = ("curve",) + tuple(points((1, 2), (5, 6)))
        self.joined("(0, 0) -- (3, 4)", two, ["line"])
        self.joined("(0, 0) .. (3, 4)", two, [("smooth", (1, 1))])
        self.joined("(0, 0) .. tension 3 / 2 .. (3, 4)", two, [("smooth", (3, 2))])
        self.joined("(0, 0) .. tension 3 / 4 .. (3, 4)", two, [("smooth", (3, 4))])
        self.joined("(0, 0) .. controls (1, 2) and (5, 6) .. (3, 4)", two, [controls])
        self.joined("(0, 0) .. controls (1, 2) .. (3, 4)", two, [("curve",) + tuple(points((1, 2), (1, 2)))])

    def test_cycles(self):
        self.joined("(1, 2) -- cycle", [(1, 2)], ["line"], True)
        self.joined("(1, 2) .. cycle", [(1, 2)], [("smooth", (1, 1))], True)
        self.joined("(0, 0) -- (3, 4) .. tension 2 .. cycle", [(0, 0), (3, 4)], ["line", ("smooth", (2, 1))], True)
        self.joined("(0, 0) .. (3, 4) .. (5, 0) .. controls (1, 1) and (2, 2) .. cycle", [(0, 0), (3, 4), (5, 0)],
                    [("smooth", (1, 1)), ("smooth", (1, 1)), ("curve",) + tuple(points((1, 1), (2, 2)))], True)

    def test_many_joins(self):
        self.joined("(0, 0) .. (1, 0) -- (1, 1) .. tension 1 .. (0, 5) .. controls (7, 7) .. (4, 4) .. (9, 9)",
                    [(0, 0), (1, 0), (1, 1), (0, 5), (4, 4), (9, 9)],
                    [("smooth", (1, 1)), "line", ("smooth", (1, 1)), ("curve",) + tuple(points((7, 7), (7, 7))),
                     ("smooth", (1, 1))])

    def test_sums_as_operands(self):
        self.joined("2 * (1, 2) + (0, 1) -- (3, 3) shifted (1, 1) .. tension 1 + 1 .. (0, 0)",
                    [(2, 5), (4, 4), (0, 0)], ["line", ("smooth", (2, 1))])
        machine = run("declare path p; z1 = (1, 2); z2 = z1 + (3, 3); p := z1 -- z2;")
        self.assertEqual(machine.value("p")[1][0], tuple(points((1, 2), (4, 5))))

    def test_kinds(self):
        for other in ("1", "true", "identity", "((0, 0) -- (1, 1))"):
            for text in ("{} -- (1, 1)", "(1, 1) -- {}", "(1, 1) .. (2, 2) -- {}", "{} -- cycle",
                         "(1, 1) .. controls {} .. (2, 2)", "(1, 1) .. controls (0, 0) and {} .. (2, 2)",
                         "(1, 1) .. controls {} and (0, 0) .. cycle"):
                self.fails(WrongKind, f"declare path p; p := {text.format(other)};")
        for other in ("(1, 1)", "true", "identity", "((0, 0) -- (1, 1))"):
            self.fails(WrongKind, f"declare path p; p := (1, 1) .. tension {other} .. (2, 2);")

    def test_knowledge(self):
        for text in ("z -- (1, 1)", "(1, 1) -- z", "(1, a) -- cycle", "(1, 1) .. tension a .. (2, 2)",
                     "(1, 1) .. controls z .. (2, 2)", "(1, 1) .. controls (0, 0) and z .. (2, 2)",
                     "(1, 1) .. controls z and (0, 0) .. cycle"):
            self.fails(UnknownValue, f"declare path p; p := {text};")

    def test_order(self):
        self.fails(DivisionByZero, "show 1 -- (1 / 0, 1);")
        self.fails(WrongKind, "show (a, 1) -- 1;")
        self.fails(WrongKind, "show (a, 1) .. tension 0 .. true;")
        self.fails(UnknownValue, "show (a, 1) .. tension 0 .. (1, 1);")
        self.fails(OutOfRange, "show (0, 1) .. tension 0 .. (1, 1);")
        machine = self.fails(UnknownValue, "show (a, b) .. tension c .. (d, e) .. controls (f, g) and (h, i) .. cycle;")
        for at, name in enumerate("abcdefghi"):
            self.assertEqual(machine.value(name), ("numeric", form(0, **{f"u{at}": 1})))

    def test_equal_controls_are_evaluated_twice(self):
        machine = self.fails(UnknownValue, "show (0, 0) .. controls (whatever, 1) .. (1, 1);")
        self.assertEqual(machine.equations.unknowns, 2)
        machine = self.fails(UnknownValue, "show (0, 0) .. controls (whatever, 1) and (whatever, 1) .. (1, 1);")
        self.assertEqual(machine.equations.unknowns, 2)

    def test_errors_of_the_path(self):
        many = " -- ".join(["(1, 1)"] * 24)
        self.shows(f"show length({many}); show length({many} -- cycle);", 23, 24)
        self.fails(TooMany, f"show length({many} -- (2, 2));")
        self.fails(TooMany, f"show length({many} .. tension 0 .. (2, 2));")
        for tension in ("0", "-1", "0.7499", "2 / 3"):
            self.fails(OutOfRange, f"show length((0, 0) .. tension {tension} .. (1, 1));")
            self.fails(OutOfRange, f"show length(({GREAT}, 0) .. (-{GREAT}, 0) .. tension {tension} .. (1, 1));")
        self.fails(TooGreat, f"show length(({GREAT}, 0) .. (-{GREAT}, 0));")
        self.evaluates(f"length(({GREAT}, 0) -- (-{GREAT}, 0))", 1)

    def test_a_join_is_no_variable_of_another_kind(self):
        self.fails(WrongKind, "a := (0, 0) -- (1, 1);")
        self.fails(WrongKind, "show (0, 0) -- (1, 1);")
        self.fails(WrongKind, "show ((0, 0) -- (1, 1)) == ((0, 0) -- (1, 1));")


if __name__ == "__main__":
    unittest.main()
