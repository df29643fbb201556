"""Points 39, 40, 43 and 44: operations, their order, and the kinds of their operands."""

import unittest
from fractions import Fraction
from itertools import product

from fontwinding.errors import DivisionByZero, OutOfRange, TooGreat, TooMany, UnknownValue, WrongKind
from tests.programs import ProgramCase, form, run

# An expression of each kind; all are known.
KNOWN = {"numeric": "2", "pair": "(3, 4)", "path": "((1, 2) -- (3, 4))", "transform": "identity", "truth": "true"}
UNKNOWN = {"numeric": "u", "pair": "(u, 1)"}
GREAT = "(100000000000000 * 10000)"
MOVERS = ("shifted", "scaled", "xscaled", "yscaled", "slanted", "rotated", "transformed")


def moved_kinds(right):
    return [(left, right) for left in ("pair", "path", "transform")]


NUMBERS = [("numeric", "numeric")]
SAME = NUMBERS + [("pair", "pair")]
# The kinds that each operation of two operands takes.
TAKEN = {
    "+": SAME, "-": SAME, "*": NUMBERS + [("numeric", "pair"), ("pair", "numeric")],
    "/": NUMBERS + [("pair", "numeric")], "div": NUMBERS, "mod": NUMBERS,
    "<": NUMBERS, "<=": NUMBERS, ">": NUMBERS, ">=": NUMBERS,
    "==": SAME + [("transform", "transform"), ("truth", "truth")],
    "<>": SAME + [("transform", "transform"), ("truth", "truth")],
    "shifted": moved_kinds("pair"), "transformed": moved_kinds("transform"),
    "scaled": moved_kinds("numeric"), "xscaled": moved_kinds("numeric"), "yscaled": moved_kinds("numeric"),
    "slanted": moved_kinds("numeric"), "rotated": moved_kinds("numeric"),
}
# Which operand, or which two together, must be known.
NEEDED = {"+": (), "-": (), "*": "one", "/": (1,), "div": (0, 1), "mod": (0, 1)}
for sign in ("<", "<=", ">", ">=", "==", "<>"):
    NEEDED[sign] = (0, 1)
for mover in MOVERS:
    NEEDED[mover] = (1,)


class KindsTest(ProgramCase):
    def test_two_operands(self):
        for sign, taken in TAKEN.items():
            for left, right in product(KNOWN, KNOWN):
                right_text = "90" if sign == "rotated" and right == "numeric" else KNOWN[right]
                text = f"def f(t) = enddef; f({KNOWN[left]} {sign} {right_text});"
                if (left, right) in taken:
                    run(text)
                else:
                    self.fails(WrongKind, text)

    def test_knowledge(self):
        for sign, taken in TAKEN.items():
            for left, right in taken:
                for unknown in ((0,), (1,), (0, 1)):
                    kinds = (left, right)
                    if any(kinds[at] not in UNKNOWN for at in unknown):
                        continue
                    operands = [UNKNOWN[kind] if at in unknown else KNOWN[kind] for at, kind in enumerate(kinds)]
                    text = f"def f(t) = enddef; f({operands[0]} {sign} {operands[1]});"
                    if NEEDED[sign] == "one":
                        fails = len(unknown) == 2
                    else:
                        fails = any(at in unknown for at in NEEDED[sign])
                    if fails:
                        self.fails(UnknownValue, text)
                    elif sign == "rotated":
                        self.fails(OutOfRange, text)
                    else:
                        run(text)

    def test_the_kind_comes_before_the_knowledge(self):
        for sign, taken in TAKEN.items():
            for left, right in product(KNOWN, KNOWN):
                if (left, right) not in taken:
                    a, b = UNKNOWN.get(left, KNOWN[left]), UNKNOWN.get(right, KNOWN[right])
                    self.fails(WrongKind, f"show {a} {sign} {b};")

    def test_one_operand(self):
        for kind, text in KNOWN.items():
            for sign, taken in (("-", ("numeric", "pair")), ("not ", ("truth",))):
                whole = f"def f(t) = enddef; f({sign}{text});"
                if kind in taken:
                    run(whole)
                else:
                    self.fails(WrongKind, whole)

    def test_pairs(self):
        for left, right in product(KNOWN, KNOWN):
            text = f"def f(t) = enddef; f(({KNOWN[left]}, {KNOWN[right]}));"
            if (left, right) == ("numeric", "numeric"):
                run(text)
            else:
                self.fails(WrongKind, text)

    def test_truth_values(self):
        for word in ("and", "or"):
            for kinds in product(KNOWN, repeat=2):
                text = f"def f(t) = enddef; f({KNOWN[kinds[0]]} {word} {KNOWN[kinds[1]]});"
                if kinds == ("truth", "truth"):
                    run(text)
                else:
                    self.fails(WrongKind, text)


class OrderTest(ProgramCase):
    def test_an_error_inside_an_operand_comes_first(self):
        for sign in TAKEN:
            self.fails(DivisionByZero, f"show true {sign} (1 / 0);")
            self.fails(DivisionByZero, f"show (1 / 0) {sign} (true + 1);")
            self.fails(WrongKind, f"show (true + 1) {sign} (1 / 0);")
        for word in ("and", "or"):
            self.fails(DivisionByZero, f"show 1 {word} 1 / 0 < 1;")
        self.fails(DivisionByZero, "show (true, 1 / 0);")
        self.fails(DivisionByZero, "show max(true, 1 / 0);")
        self.fails(DivisionByZero, "show subpath(true, true, 1 / 0);")

    def test_all_operands_of_and_and_or_are_evaluated(self):
        self.fails(DivisionByZero, "show false and 1 / 0 < 1;")
        self.fails(DivisionByZero, "show true or 1 / 0 < 1;")
        self.fails(DivisionByZero, "show 1 or true or 1 / 0 < 1;")
        self.fails(WrongKind, "show true or 1;")
        self.fails(WrongKind, "show false and 1;")
        self.fails(WrongKind, "show 1 and false;")
        self.fails(UnknownValue, "show false and a < 1;")

    def test_chains_are_done_two_by_two(self):
        self.fails(WrongKind, "show 1 + true + 1 / 0;")
        self.fails(DivisionByZero, "show 1 + 1 / 0 + true;")
        self.fails(WrongKind, "show 1 * true * floor(a);")
        self.fails(UnknownValue, "show a * b * true;")
        machine = self.fails(UnknownValue, "show a * b * c;")
        self.assertEqual(machine.equations.unknowns, 2)
        machine = self.fails(DivisionByZero, "show 1 / 0 + c;")
        self.assertEqual(machine.equations.unknowns, 0)
        self.fails(TooGreat, f"show {GREAT} + {GREAT} - {GREAT};")
        self.evaluates(f"{GREAT} - {GREAT} + {GREAT}", 10 ** 18)
        self.evaluates("7 - 4 - 2", 1)
        self.evaluates("8 / 4 / 2", 1)
        self.evaluates("8 / 4 * 2", 4)
        self.evaluates("17 mod 10 div 2", 3)
        self.evaluates("(1, 2) shifted (1, 1) scaled 2", 4, 6)
        self.evaluates("(1, 2) scaled 2 shifted (1, 1)", 3, 5)
        self.evaluates("2 * (1, 2) xscaled 3 / 2", 3, 2)

    def test_reducing_comes_behind_the_kinds_and_before_the_knowledge(self):
        # The form a + b - c cannot be reduced: its sum is too great on the way.
        text = (f"t := {GREAT}; def f(p) = a = t; b = t; c = t; show {{}}; enddef; f(a + b - c);")
        for wrong in ("p + true", "p + (1, 1)", "true + p", "p * identity", "(p, true)", "not p", "xpart(p)",
                      "known(true)", "p shifted (1, 1)", "p < true", "p -- (1, 1)"):
            self.fails(WrongKind, text.format(wrong))
        for great in ("p + 1", "1 + p", "p * u", "u * p", "u < p", "p < u", "(p, u)", "-p", "max(u, p)", "known(p)",
                      "floor(p)", "(u, 1) shifted (p, 1)", "way(u, p, u)", "way(u, v, p)", "p / u", "u / p", "p div u",
                      "u mod p", "(u, 1) == (p, 1)", "(u, 1) .. tension p .. (1, 1)"):
            self.fails(TooGreat, text.format(great))

    def test_the_parts_of_a_pair_are_both_reduced(self):
        text = f"t := {GREAT}; def f(p) = a = t; b = t; c = t; show {{}}; enddef; f((a + b - c, 0) + (0, 1));"
        for great in ("ypart(p)", "xpart(p)", "p * 2", "known(p)", "p == (u, 1)", "length(p)", "top(p)", "dot(p, p)"):
            self.fails(TooGreat, text.format(great))
        self.fails(WrongKind, text.format("p + 1"))

    def test_knowledge_comes_before_the_operation(self):
        self.fails(UnknownValue, "show a / b;")
        self.fails(UnknownValue, "show a div 0;")
        self.fails(UnknownValue, "show 1 mod b;")
        self.fails(DivisionByZero, "show a / 0;")


class SumTest(ProgramCase):
    def test_numbers(self):
        self.evaluates("1 + 2", 3)
        self.evaluates("1 / 2 + 1 / 3", Fraction(5, 6))
        self.evaluates("0.5 - 2", Fraction(-3, 2))

    def test_pairs(self):
        self.evaluates("(1, 2) + (3, 5)", 4, 7)
        self.evaluates("(1, 2) - (3, 5)", -2, -3)

    def test_unknown_values(self):
        machine = run("a = 2 * b + c - 3; d = a - a;")
        self.assertEqual(machine.value("c"), ("numeric", form(3, u0=1, u1=-2)))
        self.assertEqual(machine.value("d")[1], form(0))
        machine = run("declare pair p; p = z1 + (1, 2) - 2 * z2;")
        self.assertEqual(machine.equations.kind(5), "dependent")
        self.shows("z1 = z2 + (1, 2); z2 = (3, 3); show z1 - z2;", 1, 2)

    def test_too_great(self):
        self.fails(TooGreat, f"show {GREAT} + 1;")
        self.fails(TooGreat, f"show -{GREAT} - 1;")
        self.fails(TooGreat, f"show ({GREAT}, 0) + (1, 0);")
        self.fails(TooGreat, f"show (0, {GREAT}) + (0, 1);")
        self.evaluates(f"{GREAT} - 1", 10 ** 18 - 1)
        self.fails(TooGreat, f"b = a * {GREAT} + a;")


class ProductTest(ProgramCase):
    def test_numbers(self):
        self.evaluates("3 * 4", 12)
        self.evaluates("1 / 3 * 3", 1)
        self.evaluates("-3 * -0.5", Fraction(3, 2))

    def test_pairs(self):
        self.evaluates("3 * (1, 2)", 3, 6)
        self.evaluates("(1, 2) * 3", 3, 6)
        self.evaluates("0 * (1, 2)", 0, 0)

    def test_unknown_values(self):
        self.shows("a = 5; show a * a;", 25)
        self.assertEqual(run("b = 3 * a; c = a * 3;").value("c"), ("numeric", form(0, u0=1)))
        machine = run("z1 = 3 * z2;")
        self.assertEqual(machine.value("z", 2), ("pair", form(0, u0="1/3"), form(0, u1="1/3")))
        machine = run("z1 = a * (3, 4);")
        self.assertEqual(machine.value("a"), ("numeric", form(0, u0="1/3")))
        self.assertEqual(machine.value("y", 1), ("numeric", form(0, u0="4/3")))
        machine = run("z1 = (3, 4) * a;")
        self.assertEqual(machine.value("y", 1), ("numeric", form(0, u0="4/3")))
        machine = run("z1 = a * (3, 0);")
        self.assertEqual(machine.value("y", 1), ("numeric", form(0)))
        for wrong in ("a * b", "a * a", "a * (b, 1)", "a * (1, b)", "(b, 1) * a", "(1, a) * a"):
            self.fails(UnknownValue, f"show {wrong};")

    def test_unknowns_that_fall_out(self):
        self.shows("c = (a - a) * b; show c;", 0)
        self.shows("c = b * (a - a); show c;", 0)
        self.evaluates("0 * a", 0)

    def test_quotients(self):
        self.evaluates("1 / 2", Fraction(1, 2))
        self.evaluates("(1, 2) / 4", Fraction(1, 4), Fraction(1, 2))
        self.evaluates("1 / -2", Fraction(-1, 2))
        self.assertEqual(run("b = a / 2;").value("a"), ("numeric", form(0, u0=2)))
        self.shows("z1 / 2 = (1, 2); show z1;", 2, 4)
        for text in ("1 / 0", "(1, 2) / 0", "a / 0", "z / 0", "1 / (a - a)"):
            self.fails(DivisionByZero, f"show {text};")
        self.evaluates(f"1 / {GREAT} * {GREAT}", 1)

    def test_too_great(self):
        self.fails(TooGreat, f"show {GREAT} * 2;")
        self.fails(TooGreat, f"show {GREAT} / 0.5;")
        self.fails(TooGreat, f"show 1 / {GREAT} / 3;")
        self.fails(TooGreat, f"show 2 * (0, {GREAT});")
        self.fails(TooGreat, f"show 2 * ({GREAT}, 0);")


class WholeQuotientTest(ProgramCase):
    def test_signs(self):
        for a, b in product((-7, -6, -1, 0, 1, 6, 7, Fraction(7, 2), Fraction(-7, 2)),
                            (-3, -2, -1, 1, 2, 3, Fraction(3, 2), Fraction(-1, 3))):
            self.evaluates(f"({a}) div ({b})", a // Fraction(b))
            self.evaluates(f"({a}) mod ({b})", a - Fraction(b) * (a // Fraction(b)))

    def test_zero(self):
        for word in ("div", "mod"):
            self.fails(DivisionByZero, f"show 1 {word} 0;")
            self.fails(DivisionByZero, f"show 0 {word} 0;")
            self.evaluates(f"0 {word} 5", 0)

    def test_great_numbers(self):
        # The quotient alone is 10 ** 36.
        self.evaluates(f"{GREAT} mod (1 / {GREAT})", 0)
        self.fails(TooGreat, f"show {GREAT} div (1 / {GREAT});")
        self.evaluates(f"{GREAT} mod (1 / 3)", 0)
        self.fails(TooGreat, f"show {GREAT} div (1 / 3);")
        self.evaluates(f"({GREAT} - 1) mod 7", (10 ** 18 - 1) % 7)
        self.evaluates(f"-{GREAT} mod {GREAT}", 0)
        self.evaluates(f"1 mod {GREAT}", 1)
        self.evaluates(f"-1 mod {GREAT}", 10 ** 18 - 1)
        self.evaluates(f"{GREAT} div 1", 10 ** 18)
        self.evaluates(f"{GREAT} div -1", -10 ** 18)
        n = f"({GREAT} - 1)"
        self.evaluates(f"{GREAT} mod (5 / {n})", Fraction(10 ** 18) % Fraction(5, 10 ** 18 - 1))
        self.fails(TooGreat, f"show (2 / {n}) mod (1 / {GREAT});")


class MinusTest(ProgramCase):
    def test_minus(self):
        self.evaluates("-3", -3)
        self.evaluates("-(-3)", 3)
        self.evaluates("-(1, -2)", -1, 2)
        self.evaluates(f"-{GREAT}", -10 ** 18)
        self.assertEqual(run("b = -a;").value("b"), ("numeric", form(0, u0=1)))
        self.assertEqual(run("b = -a;").value("a"), ("numeric", form(0, u0=-1)))
        self.shows("-z1 = (1, 2); show z1;", -1, -2)


class MoverTest(ProgramCase):
    PATH = "((1, 2) .. controls (3, 4) and (5, 6) .. (7, 8))"
    T = "(identity scaled 2 shifted (1, 5))"

    def test_pairs(self):
        self.evaluates("(1, 2) shifted (3, 5)", 4, 7)
        self.evaluates("(1, 2) scaled 3", 3, 6)
        self.evaluates("(1, 2) xscaled 3", 3, 2)
        self.evaluates("(1, 2) yscaled 3", 1, 6)
        self.evaluates("(1, 2) slanted 3", 7, 2)
        self.evaluates("(1, 2) rotated 90", -2, 1)
        self.evaluates(f"(1, 2) transformed {self.T}", 3, 9)

    def test_transforms_as_they_are_written(self):
        self.evaluates("identity", 0, 0, 1, 0, 0, 1)
        self.evaluates("identity shifted (3, 5)", 3, 5, 1, 0, 0, 1)
        self.evaluates("identity scaled 3", 0, 0, 3, 0, 0, 3)
        self.evaluates("identity xscaled 3", 0, 0, 3, 0, 0, 1)
        self.evaluates("identity yscaled 3", 0, 0, 1, 0, 0, 3)
        self.evaluates("identity slanted 3", 0, 0, 1, 3, 0, 1)
        self.evaluates("identity rotated 90", 0, 0, 0, -1, 1, 0)
        self.evaluates(f"identity transformed {self.T}", 1, 5, 2, 0, 0, 2)

    def test_the_left_transform_comes_first(self):
        self.evaluates("identity shifted (1, 0) rotated 90", 0, 1, 0, -1, 1, 0)
        self.evaluates("identity rotated 90 shifted (1, 0)", 1, 0, 0, -1, 1, 0)
        self.evaluates(f"identity shifted (1, 1) transformed {self.T}", 3, 7, 2, 0, 0, 2)
        self.evaluates(f"{self.T} transformed (identity shifted (1, 1))", 2, 6, 2, 0, 0, 2)
        self.evaluates("(3, 5) shifted (1, 0) rotated 90", -5, 4)
        self.evaluates("(3, 5) transformed (identity shifted (1, 0) rotated 90)", -5, 4)

    def test_rotations(self):
        for degrees, x, y in ((0, 1, 2), (90, -2, 1), (180, -1, -2), (270, 2, -1), (360, 1, 2), (-90, 2, -1),
                              (-450, 2, -1), (36000090, -2, 1)):
            self.evaluates(f"(1, 2) rotated {degrees}", x, y)
        for degrees in ("45", "1", "89.5", "-91", "91", "(1 / 90)", "(90 / 7)", "(-180 / 11)"):
            for left in ("(1, 2)", "identity", self.PATH, "z"):
                self.fails(OutOfRange, f"show {left} rotated {degrees};")

    def test_paths(self):
        self.shows(f"declare path p; p := {self.PATH} shifted (1, -1); show point(0, p); show point(1, p); "
                   "show point(1 / 2, p); show length(p);", 2, 1, 8, 7, 5, 4, 1)
        self.shows(f"declare path p; p := {self.PATH} rotated 90; show point(0, p); show point(1, p);", -2, 1, -8, 7)

    def test_unknown_pairs(self):
        machine = run("declare pair p; p = z shifted (3, 5);")
        self.assertEqual(machine.value("x"), ("numeric", form(-3, u0=1)))
        self.assertEqual(machine.value("y"), ("numeric", form(-5, u1=1)))
        machine = run("declare pair p; z = (a, b); p = z slanted 2; q = ypart(p);")
        self.assertEqual(machine.equations.kind(4), "dependent")
        self.shows("z1 rotated 90 = (3, 4); show z1;", 4, -3)
        self.shows(f"z1 transformed {self.T} = (3, 4); show z1;", 1, Fraction(-1, 2))
        self.shows("declare pair p; p = z slanted 2; p = (5, 2); show z;", 1, 2)

    def test_too_great(self):
        self.fails(TooGreat, f"show (0, {GREAT}) shifted (0, 1);")
        self.fails(TooGreat, f"show (2, 0) scaled {GREAT};")
        self.fails(TooGreat, f"show (identity scaled {GREAT}) scaled {GREAT};")
        self.fails(TooGreat, f"declare path p; p := ((2, 0) -- (0, 0)) yscaled 1 xscaled {GREAT};")
        self.fails(TooGreat, f"z = z1 scaled {GREAT} scaled 2;")


class RelationTest(ProgramCase):
    def test_order(self):
        for a, b in product((-1, 0, Fraction(1, 3), Fraction(1, 2), 1), repeat=2):
            for sign, wanted in (("<", a < b), ("<=", a <= b), (">", a > b), (">=", a >= b), ("==", a == b),
                                 ("<>", a != b)):
                self.evaluates(f"({a}) {sign} ({b})", int(wanted))

    def test_equality(self):
        for a, b in (("(1, 2)", "(1, 3)"), ("(1, 2)", "(2, 2)"), ("identity", "identity shifted (1, 0)"),
                     ("true", "false"), ("identity", "identity yscaled 2")):
            self.evaluates(f"{a} == {a}", 1)
            self.evaluates(f"{a} <> {a}", 0)
            self.evaluates(f"{a} == {b}", 0)
            self.evaluates(f"{a} <> {b}", 1)
        self.evaluates("(1 < 2) == (2 < 3)", 1)
        self.shows("a = 2; b + 1 = 3; show a == b; show (a, b) == (2, a);", 1, 1)
        self.fails(UnknownValue, "show a == a;")
        self.fails(UnknownValue, "a = b; show a == b;")
        self.fails(UnknownValue, "show (1, a) <> (2, a);")


class TruthTest(ProgramCase):
    def test_tables(self):
        words = {False: "false", True: "true"}
        for values in product((False, True), repeat=3):
            a, b, c = (words[value] for value in values)
            self.evaluates(f"{a} and {b}", int(values[0] and values[1]))
            self.evaluates(f"{a} or {b}", int(values[0] or values[1]))
            self.evaluates(f"{a} and {b} and {c}", int(all(values)))
            self.evaluates(f"{a} or {b} or {c}", int(any(values)))
            self.evaluates(f"{a} or {b} and {c}", int(values[0] or (values[1] and values[2])))
            self.evaluates(f"not {a}", int(not values[0]))
            self.evaluates(f"not {a} == {b}", int(values[0] != values[1]))


class ConstantTest(ProgramCase):
    def test_constants(self):
        self.evaluates("true", 1)
        self.evaluates("false", 0)
        for resolution in (1, 2, 20):
            self.evaluates("pix", resolution, resolution=resolution)
            self.evaluates("1 / pix", Fraction(1, resolution), resolution=resolution)
        self.evaluates("identity", 0, 0, 1, 0, 0, 1)

    def test_whatever(self):
        machine = run("a = whatever; b = whatever; whatever = whatever;")
        self.assertEqual(machine.equations.unknowns, 6)
        self.assertEqual(machine.equations.form(1), form(0, u0=1))
        self.shows("z3 = way(whatever, (0, 0), (4, 4)); z3 = way(whatever, (0, 2), (2, 0)); show z3;", 1, 1)
        machine = self.fails(UnknownValue, "show whatever;")
        self.assertEqual(machine.equations.unknowns, 1)

    def test_pairs(self):
        self.evaluates("(1, 2)", 1, 2)
        machine = run("declare pair p; p = (a, b + 1);")
        self.assertEqual(machine.value("a"), ("numeric", form(0, u0=1)))
        self.assertEqual(machine.value("b"), ("numeric", form(-1, u1=1)))
        machine = self.fails(TooMany, "for i = 1 step 1 until 79: a[i] = i; endfor; show (whatever, whatever);")
        self.assertEqual(machine.equations.unknowns, 80)


if __name__ == "__main__":
    unittest.main()
