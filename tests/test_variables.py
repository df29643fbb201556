"""Points 39, 41 and 42: variables, assignments and equations."""

import unittest

from fontwinding.errors import (
    Contradiction, DivisionByZero, OutOfRange, TooGreat, TooMany, UnknownValue, WrongKind,
)
from fontwinding.machine import Machine
from fontwinding.transforms import IDENTITY
from tests.programs import OPEN, ProgramCase, form, numeric, pair, run, state_of
from tests.support import point


def after_unknowns(count):
    """A machine with this many unknowns."""
    return run(f"for i = 1 step 1 until {count}: a[i - 1] = i; endfor;")


class UseTest(ProgramCase):
    def test_a_numeric_variable_becomes_an_unknown(self):
        machine = self.fails(UnknownValue, "show a;")
        self.assertEqual(machine.equations.unknowns, 1)
        self.assertEqual(machine.value("a"), ("numeric", form(0, u0=1)))
        self.fails(UnknownValue, "show a + b5;", machine)
        self.assertEqual(machine.equations.unknowns, 2)
        self.assertEqual(machine.value("b", 5), ("numeric", form(0, u1=1)))
        self.fails(UnknownValue, "show b5 + b;", machine)
        self.assertEqual(machine.value("b"), ("numeric", form(0, u2=1)))

    def test_a_pair_variable_becomes_two_unknowns(self):
        machine = run("declare pair p; a = whatever; p3 = p;")
        self.assertEqual(machine.equations.unknowns, 6)
        self.assertEqual(machine.value("p"), ("pair", form(0, u2=1), form(0, u3=1)))
        self.assertEqual(machine.value("p", 3), ("pair", form(0, u2=1), form(0, u3=1)))
        self.assertEqual(machine.equations.form(4), form(0, u2=1))

    def test_paths_and_transforms_that_have_not_been_assigned(self):
        for kind in ("path", "transform"):
            for name in ("p", "p1", "p[50 + 49]"):
                machine = self.fails(UnknownValue, f"declare {kind} p; show {name};")
                self.assertEqual(machine.equations.unknowns, 0)
                self.assertIsNone(machine.value("p"))
                self.fails(UnknownValue, f"show known({name});", machine)
                self.fails(UnknownValue, f"{name} = 1;", machine)

    def test_a_value_that_is_not_used_is_none(self):
        machine = run("a1 = 1; declare pair p; declare path q; declare transform t;")
        for name in ("a", "b", "p", "q", "t", "x", "y", "z", "abcdefghijklmnop"):
            self.assertIsNone(machine.value(name))
        self.assertIsNone(machine.value("a", 2))
        self.assertIsNone(machine.value("a", 100))
        self.assertIsNone(machine.value("a", -1))
        self.assertEqual(machine.value("a", 1), numeric(1))
        self.assertEqual(machine.value(name="a", subscript=1), numeric(1))
        self.assertEqual(machine.equations.unknowns, 1)

    def test_value_does_not_use_a_variable(self):
        machine = Machine()
        before = state_of(machine)
        for name in ("a", "z"):
            machine.value(name)
            machine.value(name, 3)
        self.assertEqual(state_of(machine), before)

    def test_values_are_reduced(self):
        machine = run("a + b = 3; c := 4;")
        self.assertEqual(machine.value("a"), ("numeric", form(0, u0=1)))
        self.assertEqual(machine.value("b"), ("numeric", form(3, u0=-1)))
        run("a - b = 1;", machine)
        self.assertEqual(machine.value("a"), numeric(2))
        self.assertEqual(machine.value("b"), numeric(1))
        self.assertEqual(machine.value("c"), numeric(4))
        run("declare pair p; xpart(p) = 2 * ypart(p);", machine)
        self.assertEqual(machine.value("p"), ("pair", form(0, u2=1), form(0, u2="1/2")))

    def test_names_of_loops_and_parameters_are_no_variables(self):
        machine = run("for i = 1: j = i; endfor; def f(k) = l = k; enddef; f(3);")
        self.assertIsNone(machine.value("i"))
        self.assertIsNone(machine.value("k"))
        self.assertEqual(machine.value("l"), numeric(3))


class SubscriptTest(ProgramCase):
    def test_subscripts(self):
        machine = run("a0 = 5; a99 = 6; a[0 + 1] = 7; a007 = 8; a[a0 / 5 + 1] = 9; a[1.5 * 2] = 10; a[-(-4)] = 11;")
        self.assertEqual([machine.value("a", n) for n in (0, 99, 1, 7, 2, 3, 4)],
                         [numeric(n) for n in (5, 6, 7, 8, 9, 10, 11)])
        self.shows("a1 = 5; a[1] = b; show b; a01 = c; show c;", 5, 5)

    def test_a_subscript_is_not_the_same_as_none(self):
        self.shows("a = 1; a0 = 2; show a; show a0;", 1, 2)

    def test_out_of_range(self):
        for subscript in ("100", "[100]", "[-1]", "[1 / 2]", "[0.5]", "[99.5]", "[99 + 1]", "[-0.5]",
                          "[1000000000000 * 1000000]"):
            self.refuses(OutOfRange, f"show a{subscript};")
            self.refuses(OutOfRange, f"a{subscript} := 1;")
            self.refuses(OutOfRange, f"z{subscript} := (1, 1);")
            self.refuses(OutOfRange, f"show z{subscript};")
            self.refuses(OutOfRange, f"show q{subscript};", run("declare path q;"))

    def test_kinds(self):
        for subscript in ("(1, 1)", "true", "identity", "(1, 1) -- (2, 2)"):
            self.refuses(WrongKind, f"show a[{subscript}];")
            self.refuses(WrongKind, f"a[{subscript}] := 1;")

    def test_unknown(self):
        machine = self.fails(UnknownValue, "show a[b];")
        self.assertEqual(machine.equations.unknowns, 1)
        self.assertIsNotNone(machine.value("b"))
        self.refuses(UnknownValue, "a[b] := 1;", machine)
        self.fails(UnknownValue, "show a[whatever];")
        run("b = 7; a[b] := 1; a[b] = 1;", machine)
        self.assertEqual(machine.value("a", 7), numeric(1))

    def test_the_subscript_comes_first(self):
        machine = self.fails(UnknownValue, "show z[b];")
        self.assertEqual(machine.equations.unknowns, 1)
        self.assertEqual(machine.value("b"), ("numeric", form(0, u0=1)))
        # b is 0 and a[b] is 1.
        machine = run("b = c; c = 3;")
        run("a[b] = 4 + d;", machine)
        self.assertEqual(machine.value("a", 3), ("numeric", form(0, u2=1)))

    def test_the_subscript_of_z_is_evaluated_once(self):
        machine = self.fails(UnknownValue, "show z[whatever];")
        self.assertEqual(machine.equations.unknowns, 1)
        machine = self.fails(UnknownValue, "show z[0 * whatever];")
        self.assertEqual(machine.equations.unknowns, 3)

    def test_subscripts_of_subscripts(self):
        self.shows("a1 = 2; a2 = 3; a3 = 4; show a[a[a1]];", 4)


class DeclareTest(ProgramCase):
    def test_names_are_numeric_unless_declared(self):
        machine = run("declare pair p, q; declare numeric n; p = q; n = a;")
        self.assertEqual(machine.value("p")[0], "pair")
        self.assertEqual(machine.value("n")[0], "numeric")
        self.assertEqual(machine.value("a")[0], "numeric")

    def test_all_subscripts_have_the_kind(self):
        machine = run("declare pair p; p1 := (1, 2); p99 := (3, 4); p := (5, 6);")
        self.assertEqual([machine.value("p", n) for n in (1, 99, None)], [pair(1, 2), pair(3, 4), pair(5, 6)])

    def test_a_declaration_makes_all_variables_of_the_names_new(self):
        machine = run("a = 1; a1 = 2; b = 3; c := 4; declare numeric a, c;")
        self.assertIsNone(machine.value("a"))
        self.assertIsNone(machine.value("a", 1))
        self.assertIsNone(machine.value("c"))
        self.assertEqual(machine.value("b"), numeric(3))
        self.assertEqual(machine.equations.unknowns, 3)
        run("a = 7;", machine)
        self.assertEqual(machine.equations.unknowns, 4)
        self.assertEqual(machine.value("a"), numeric(7))

    def test_kinds_change(self):
        machine = run("a = 1; declare path a; a := (1, 1) -- (2, 2); declare pair a; a = (3, 4);")
        self.assertEqual(machine.value("a"), pair(3, 4))
        run("declare transform a; a := identity;", machine)
        self.assertEqual(machine.value("a"), ("transform", IDENTITY))
        run("declare numeric a; a = 5;", machine)
        self.assertEqual(machine.value("a"), numeric(5))

    def test_a_name_twice(self):
        machine = run("declare pair a, b, a; a = (1, 2);")
        self.assertEqual(machine.value("a"), pair(1, 2))

    def test_x_y_and_z_cannot_be_declared(self):
        for names in ("x", "y", "z", "x, a", "a, y", "a, b, z, c"):
            for kind in ("numeric", "pair", "path", "transform"):
                machine = run("a = 1; b1 = 2; x = 3; z1 = (4, 5);")
                self.refuses(OutOfRange, f"declare {kind} {names};", machine)
                self.assertEqual(machine.value("a"), numeric(1))
                self.assertEqual(machine.value("b", 1), numeric(2))
                self.assertEqual(machine.value("x"), numeric(3))
                self.assertEqual(machine.value("z", 1), pair(4, 5))
                run("a := 6;", machine)
        run("declare pair xx, yy, zz, xy;")

    def test_earlier_equations_stay(self):
        machine = run("a + b = 3; declare numeric a; b = 1;")
        self.assertEqual(machine.equations.form(0), form(2))
        self.assertIsNone(machine.value("a"))


class ManyUnknownsTest(ProgramCase):
    def test_eighty_unknowns(self):
        machine = after_unknowns(79)
        self.assertEqual(machine.equations.unknowns, 79)
        run("b = 1;", machine)
        self.assertEqual(machine.equations.unknowns, 80)
        for text in ("c = 1;", "show c;", "show whatever;", "show z;", "x = 1;", "show c7;"):
            self.refuses(TooMany, text, machine)
        self.assertIsNone(machine.value("c"))
        run("c := 5; show c; show b;", machine)
        self.assertEqual(machine.shown(), [(5, 1), (1, 1)])

    def test_a_pair_with_two_left(self):
        machine = after_unknowns(78)
        run("declare pair p; p = (1, 2);", machine)
        self.assertEqual(machine.equations.unknowns, 80)
        self.assertEqual(machine.value("p"), pair(1, 2))

    def test_a_pair_with_one_left(self):
        machine = run("declare pair p;", after_unknowns(79))
        for text in ("p = (1, 2);", "show p;", "show p5;", "show known(p);"):
            self.refuses(TooMany, text, machine)
        self.assertIsNone(machine.value("p"))
        run("p := (1, 2); q = 5;", machine)
        self.assertEqual(machine.equations.unknowns, 80)
        self.assertEqual(machine.value("p"), pair(1, 2))

    def test_z_with_one_left(self):
        machine = self.fails(TooMany, "show z;", after_unknowns(79))
        self.assertEqual(machine.equations.unknowns, 80)
        self.assertEqual(machine.value("x"), ("numeric", form(0, u79=1)))
        self.assertIsNone(machine.value("y"))
        self.assertIsNone(machine.value("z"))
        machine = self.fails(TooMany, "z4 = (1, 1);", after_unknowns(79))
        self.assertEqual(machine.value("x", 4), ("numeric", form(0, u79=1)))
        self.assertIsNone(machine.value("z", 4))
        self.assertIsNone(machine.value("x"))

    def test_z_with_two_and_with_none_left(self):
        machine = run("z9 = (1, 2);", after_unknowns(78))
        self.assertEqual(machine.value("z", 9), pair(1, 2))
        self.refuses(TooMany, "z8 = (1, 2);", machine)
        self.assertIsNone(machine.value("x", 8))

    def test_whatever_is_a_new_unknown_each_time(self):
        machine = run("for i = 1 step 1 until 80: whatever = i; endfor;")
        self.assertEqual(machine.equations.unknowns, 80)
        self.refuses(TooMany, "whatever = 1;", machine)


class PointNamesTest(ProgramCase):
    def test_z_is_the_pair_of_x_and_y(self):
        machine = run("z = (1, 2); z5 = (3, 4); x6 = 7; y6 = 8;")
        self.assertEqual(machine.value("x"), numeric(1))
        self.assertEqual(machine.value("y"), numeric(2))
        self.assertEqual(machine.value("x", 5), numeric(3))
        self.assertEqual(machine.value("y", 5), numeric(4))
        self.assertEqual(machine.value("z", 6), pair(7, 8))
        self.assertEqual(machine.value("z"), pair(1, 2))

    def test_x_is_used_before_y(self):
        machine = run("z1 = z2;")
        self.assertEqual(machine.value("z", 1), ("pair", form(0, u0=1), form(0, u1=1)))
        self.assertEqual(machine.equations.form(2), form(0, u0=1))
        self.assertEqual(machine.equations.form(3), form(0, u1=1))

    def test_z_with_one_of_both_used(self):
        machine = run("y = 5;")
        self.assertIsNone(machine.value("z"))
        self.fails(UnknownValue, "show z;", machine)
        self.assertEqual(machine.value("z"), ("pair", form(0, u1=1), form(5)))
        self.assertIsNone(run("x1 = 5;").value("z", 1))

    def test_assignments_to_z(self):
        machine = run("z := (1, 2); z[3 + 4] := (5, 6);")
        self.assertEqual(machine.equations.unknowns, 0)
        self.assertEqual(machine.value("x"), numeric(1))
        self.assertEqual(machine.value("y"), numeric(2))
        self.assertEqual(machine.value("z", 7), pair(5, 6))
        self.assertEqual(machine.value("x", 7), numeric(5))
        for wrong in ("1", "(1, 1) -- (2, 2)", "identity", "true"):
            self.refuses(WrongKind, f"z := {wrong};", machine)
        self.fails(UnknownValue, "z := (a, 1);", machine)
        self.assertEqual(machine.value("z"), pair(1, 2))


class AssignTest(ProgramCase):
    def test_each_kind(self):
        machine = run("declare pair p; declare path q; declare transform t; a := 1 / 2; p := (1, 2); "
                      "q := (0, 0) -- (1, 1); t := identity; a1 := 3; p1 := (3, 4); q1 := (0, 0) -- cycle; "
                      "t1 := identity shifted (1, 2);")
        self.assertEqual(machine.equations.unknowns, 0)
        self.assertEqual(machine.value("a"), numeric("1/2"))
        self.assertEqual(machine.value("p"), pair(1, 2))
        self.assertEqual(machine.value("q"), ("path", ((point(0, 0), point(1, 1)), (None,), False)))
        self.assertEqual(machine.value("t"), ("transform", IDENTITY))
        self.assertEqual(machine.value("a", 1), numeric(3))
        self.assertEqual(machine.value("p", 1), pair(3, 4))
        self.assertEqual(machine.value("q", 1), ("path", ((point(0, 0),), (None,), True)))
        self.assertEqual(machine.value("t", 1), ("transform", ((1, 1), (2, 1)) + IDENTITY[2:]))

    def test_a_pair_for_a_path_variable(self):
        machine = run("declare path q; q := (1, 2); a = 3; q1 := (a, a);")
        self.assertEqual(machine.value("q"), ("path", ((point(1, 2),), (), False)))
        self.assertEqual(machine.value("q", 1), ("path", ((point(3, 3),), (), False)))
        self.fails(UnknownValue, "q := (b, 1);", machine)
        self.assertEqual(machine.value("q"), ("path", ((point(1, 2),), (), False)))
        self.assertIsNone(self.fails(UnknownValue, "q7 := z;", machine).value("q", 7))

    def test_wrong_kinds(self):
        values = {"numeric": "1", "pair": "(1, 2)", "path": "(0, 0) -- (1, 1)", "transform": "identity",
                  "truth": "true"}
        for kind in ("numeric", "pair", "path", "transform"):
            for other, text in values.items():
                if kind == other or (kind, other) == ("path", "pair"):
                    run(f"declare {kind} v; v := {text};")
                else:
                    machine = run(f"declare {kind} v;")
                    self.refuses(WrongKind, f"v := {text};", machine)
                    self.assertIsNone(machine.value("v"))
                    self.refuses(WrongKind, f"v5 := {text};", machine)

    def test_unknown_values(self):
        machine = self.fails(UnknownValue, "a := b;")
        self.assertIsNone(machine.value("a"))
        self.assertIsNotNone(machine.value("b"))
        self.fails(UnknownValue, "declare pair p; p := (1, b);", machine)
        self.assertIsNone(machine.value("p"))
        self.fails(WrongKind, "declare path q; q := b;", machine)

    def test_the_kind_comes_before_the_knowledge(self):
        self.fails(WrongKind, "declare pair p; p := b;")
        self.fails(WrongKind, "a := (b, c);")

    def test_an_assignment_does_not_use_its_variable(self):
        machine = run("a := 1; x3 := 4;")
        self.assertEqual(machine.equations.unknowns, 0)
        self.assertEqual(machine.value("a"), numeric(1))

    def test_the_variable_in_its_own_expression(self):
        self.shows("a := 1; a := a + 1; show a;", 2)
        self.fails(UnknownValue, "a := a + 1;")
        self.shows("a = 1; a := a + 1; show a; show a;", 2, 2)

    def test_earlier_unknowns_do_not_change(self):
        machine = run("a + b = 3; a := 1;")
        self.assertEqual(machine.value("b"), ("numeric", form(3, u0=-1)))
        self.assertEqual(machine.equations.kind(0), "free")
        self.fails(UnknownValue, "show b;", machine)
        self.assertEqual(machine.value("a"), numeric(1))
        self.refuses(Contradiction, "a = 2;", machine)
        run("a = 1;", machine)
        self.assertEqual(machine.equations.kind(0), "free")

    def test_later_equations_do_not_change_it(self):
        machine = run("b = 2; a := b; b := 3;")
        self.assertEqual(machine.value("a"), numeric(2))
        self.assertEqual(machine.value("b"), numeric(3))

    def test_the_subscript_comes_before_the_expression(self):
        machine = self.fails(OutOfRange, "a[100] := b;")
        self.assertIsNone(machine.value("b"))
        machine = self.fails(UnknownValue, "a[c] := 1 / 0;")
        machine = self.fails(DivisionByZero, "a[0 * b] := 1 / 0;")
        self.assertIsNotNone(machine.value("b"))
        machine = self.fails(WrongKind, "a[true] := 1 / 0;")
        machine = self.fails(UnknownValue, "a[0 * c] := d;")
        self.assertEqual(machine.value("c"), ("numeric", form(0, u0=1)))
        self.assertEqual(machine.value("d"), ("numeric", form(0, u1=1)))

    def test_a_truth_value_has_no_variable(self):
        self.fails(WrongKind, "a := true;")
        self.fails(WrongKind, "a := 1 < 2;")


class EquateTest(ProgramCase):
    def test_numbers(self):
        self.shows("a + b = 3; a - b = 1; show a; show b;", 2, 1)
        self.shows("2 = a; show a;", 2)
        self.shows("2 * a + 1 = 5; show a;", 2)
        run("2 = 2;")
        self.fails(Contradiction, "2 = 3;")

    def test_pairs(self):
        self.shows("z1 = (1, 2); z2 - z1 = (3, 4); show z2;", 4, 6)
        self.shows("z3 = way(1 / 2, (0, 0), (2, 4)); show z3;", 1, 2)
        self.shows("(a, b) = (b + 1, 3); show a; show b;", 4, 3)

    def test_kinds(self):
        for left, right in (("1", "(1, 1)"), ("(1, 1)", "1"), ("true", "true"), ("identity", "identity"),
                            ("(0, 0) -- (1, 1)", "(0, 0) -- (1, 1)"), ("1", "true"), ("1 < 2", "1"),
                            ("(1, 1)", "(1, 1) -- (1, 1)"), ("(1, 1) -- (2, 2)", "(1, 1)"), ("1", "identity")):
            self.refuses(WrongKind, f"{left} = {right};")

    def test_both_sides_are_evaluated_first(self):
        self.fails(DivisionByZero, "true = 1 / 0;")
        self.fails(UnknownValue, "identity = floor(a);")
        machine = self.fails(WrongKind, "a = b1 + (1, 2);")
        self.assertEqual(machine.equations.unknowns, 2)

    def test_redundant_equations(self):
        machine = run("a = b; b = a; 2 * a = 2 * b; a + b = 2 * a; z1 = z1; 1 = 1; (1, 1) = (1, 1);")
        self.assertEqual(machine.equations.kind(0), "free")

    def test_contradictions(self):
        machine = run("a + b = 3; a = 1;")
        self.refuses(Contradiction, "b = 3;", machine)
        self.refuses(Contradiction, "a + 2 * b = 6;", machine)
        run("b = 2;", machine)
        machine = run("z1 = (1, 2);")
        self.refuses(Contradiction, "z1 = (1, 3);", machine)
        self.refuses(Contradiction, "z1 = (2, 2);", machine)

    def test_unknowns_of_the_left_side_are_used_first(self):
        machine = run("b = a;")
        self.assertEqual(machine.equations.form(0), form(0, u0=1))
        self.assertEqual(machine.value("b"), ("numeric", form(0, u0=1)))
        self.assertEqual(machine.value("a"), ("numeric", form(0, u0=1)))

    def test_the_forms_are_taken_as_they_are(self):
        text = "t := 100000000000000 * 10000; def f(p) = a = t; b = t; c = t; {} enddef; f(a + b - c);"
        # The form a + b - c is the parameter's; its sum is too great on the way, but a + b - c - b is not.
        run(text.format("p = b;"))
        run(text.format("b = p;"))
        self.fails(TooGreat, text.format("p = 0;"))
        self.fails(TooGreat, text.format("show p;"))

    def test_too_great(self):
        machine = run("a = 100000000000000 * 10000;")
        self.refuses(TooGreat, "a = -a;", machine)
        self.assertEqual(machine.value("a"), numeric(10 ** 18))
        self.fails(TooGreat, "a = 100000000000000 * 100000;")

    def test_a_declared_name_in_equations(self):
        self.refuses(WrongKind, "p = 1;", run("declare pair p; p = p;"))
        self.refuses(WrongKind, "q = q;", run("declare path q; q := (0, 0);"))
        self.refuses(WrongKind, "t = t;", run("declare transform t; t := identity;"))

    def test_assigned_variables_in_equations(self):
        self.shows("a := 3; a + b = 5; show b;", 2)

    def test_equations_in_a_character(self):
        machine = run("z1 = (1, 2); x = 3; a = 4; " + OPEN + "z1 = (5, 6); x = 7;")
        self.assertEqual(machine.value("z", 1), pair(5, 6))
        self.assertEqual(machine.value("x"), numeric(7))
        self.assertEqual(machine.value("a"), numeric(4))
        run("endchar;", machine)
        self.assertEqual(machine.value("z", 1), pair(5, 6))


if __name__ == "__main__":
    unittest.main()
