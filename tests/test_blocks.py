"""Points 48 and 49: loops, conditions, definitions and calls, and names that stand for values."""

import unittest
from fractions import Fraction

from fontwinding.errors import DivisionByZero, OutOfRange, TooGreat, UnknownValue, WrongKind
from fontwinding.machine import Machine
from tests.programs import OPEN, ProgramCase, form, numeric, pair, run

GREAT = "(100000000000000 * 10000)"


class ListLoopTest(ProgramCase):
    def test_values(self):
        self.shows("for i = 7: show i; endfor;", 7)
        self.shows("for i = 3, 1, 1 / 2, 3, -4: show i; endfor;", 3, 1, Fraction(1, 2), 3, -4)
        self.shows("a = 5; for i = a, a + a: show i; endfor;", 5, 10)

    def test_all_values_are_evaluated_first(self):
        machine = self.fails(DivisionByZero, "for i = 1, 2, 1 / 0: show i; endfor;")
        self.assertEqual(machine.shown(), [])
        self.shows("a := 1; for i = a, a + 1: a := 10; show i; endfor;", 1, 2)

    def test_each_value_is_checked_as_soon_as_it_is_evaluated(self):
        self.fails(WrongKind, "for i = true, 1 / 0: endfor;")
        self.fails(UnknownValue, "for i = a, true: endfor;")
        self.fails(DivisionByZero, "for i = 1 / 0, true: endfor;")
        for wrong in ("(1, 1)", "(1, 1) -- cycle", "identity", "true"):
            self.fails(WrongKind, f"for i = 1, {wrong}: endfor;")
        machine = self.fails(UnknownValue, "for i = 1, a, b: show i; endfor;")
        self.assertIsNone(machine.value("b"))
        self.assertEqual(machine.shown(), [])


class RangeLoopTest(ProgramCase):
    def test_values(self):
        self.shows("for i = 1 step 1 until 4: show i; endfor;", 1, 2, 3, 4)
        self.shows("for i = 1 step 2 until 4: show i; endfor;", 1, 3)
        self.shows("for i = 4 step -1 until 1: show i; endfor;", 4, 3, 2, 1)
        self.shows("for i = 4 step -2 until 1: show i; endfor;", 4, 2)
        self.shows("for i = 0 step 1 / 3 until 1: show i; endfor;", 0, Fraction(1, 3), Fraction(2, 3), 1)
        self.shows("for i = 3 step 5 until 3: show i; endfor;", 3)
        self.shows("for i = 3 step -5 until 3: show i; endfor;", 3)

    def test_no_pass(self):
        self.shows("for i = 3 step 1 until 2: show i; endfor;")
        self.shows("for i = 3 step -1 until 4: show i; endfor;")
        self.shows("for i = 3 step 1 until 2.9: show i; endfor;")

    def test_a_step_of_zero(self):
        self.fails(OutOfRange, "for i = 1 step 0 until 2: endfor;")
        self.fails(OutOfRange, "for i = 1 step 0 until 1 / 0: endfor;")
        self.fails(OutOfRange, "for i = 1 step 1 - 1 until true: endfor;")
        machine = self.fails(OutOfRange, "for i = 1 step 0 until a: endfor;")
        self.assertIsNone(machine.value("a"))

    def test_order_and_kinds(self):
        self.fails(WrongKind, "for i = true step 1 / 0 until 1: endfor;")
        self.fails(UnknownValue, "for i = a step true until 1: endfor;")
        self.fails(WrongKind, "for i = 1 step true until 1 / 0: endfor;")
        self.fails(UnknownValue, "for i = 1 step a until 1 / 0: endfor;")
        self.fails(WrongKind, "for i = 1 step 1 until true: endfor;")
        self.fails(UnknownValue, "for i = 1 step 1 until a: endfor;")
        self.fails(DivisionByZero, "for i = 1 / 0 step 0 until 1: endfor;")

    def test_the_next_value_is_calculated_when_the_body_has_been_run(self):
        machine = self.fails(TooGreat, f"for i = {GREAT} step 1 until {GREAT}: show 1; endfor; show 2;")
        self.assertEqual(machine.shown(), [(1, 1)])
        machine = self.fails(TooGreat, f"for i = {GREAT} - 1 step 1 until {GREAT}: show 1; endfor;")
        self.assertEqual(machine.shown(), [(1, 1), (1, 1)])
        self.shows(f"for i = {GREAT} step 1 until {GREAT} - 1: show 1; endfor;")

    def test_the_bounds_are_evaluated_once(self):
        self.shows("a := 3; for i = 1 step 1 until a: a := 5; show i; endfor;", 1, 2, 3)
        machine = run("for i = 1 step 1 until 0 * whatever + 3: endfor;")
        self.assertEqual(machine.equations.unknowns, 1)


class LoopNameTest(ProgramCase):
    def test_a_name_stands_for_the_value_of_the_pass(self):
        self.shows("i = 9; for i = 1, 2: show i; endfor; show i;", 1, 2, 9)
        machine = run("for i = 1, 2: endfor;")
        self.assertIsNone(machine.value("i"))
        self.assertEqual(machine.equations.unknowns, 0)

    def test_without_a_subscript_only(self):
        self.shows("i1 = 7; for i = 1, 2: show i1; show i[i - i + 1]; a[i] = i; endfor; show a1; show a2;",
                   7, 7, 7, 7, 1, 2)

    def test_an_inner_name_hides_an_outer_one(self):
        self.shows("for i = 1, 2: for i = 5, 6: show i; endfor; show i; endfor;", 5, 6, 1, 5, 6, 2)
        self.shows("for i = 1, 2: for j = i, i + 1: show i; show j; endfor; endfor;", 1, 1, 1, 2, 2, 2, 2, 3)
        self.shows("for i = 2, 3: for i = i, i * i: show i; endfor; endfor;", 2, 4, 3, 9)

    def test_values_in_equations(self):
        self.shows("for i = 3: a = i; i = b; i = 3; endfor; show a; show b;", 3, 3)

    def test_a_name_of_another_kind(self):
        self.shows("declare pair p; for p = 1, 2: show p; endfor; p = (3, 4); show p;", 1, 2, 3, 4)
        self.shows("declare path p; for p = 1, 2: show p; endfor;", 1, 2)


class ConditionTest(ProgramCase):
    def test_branches(self):
        text = "if a < 1: show 1; elseif a < 2: show 2; elseif a < 3: show 3; {} fi; show 5;"
        for a, wanted in ((0, 1), (1, 2), (2, 3)):
            self.shows(f"a = {a}; " + text.format("else: show 4;"), wanted, 5)
            self.shows(f"a = {a}; " + text.format(""), wanted, 5)
        self.shows("a = 3; " + text.format("else: show 4;"), 4, 5)
        self.shows("a = 3; " + text.format(""), 5)

    def test_conditions_are_evaluated_until_one_is_true(self):
        self.shows("if true: show 1; elseif 1 / 0 < 1: show 2; fi;", 1)
        self.fails(DivisionByZero, "if false: show 1; elseif 1 / 0 < 1: show 2; fi;")
        machine = self.fails(WrongKind, "if false: show 1; elseif 1: show 2; else: show 3; fi;")
        self.assertEqual(machine.shown(), [])
        self.shows("if true: elseif 1: fi;")

    def test_kinds(self):
        for wrong in ("1", "(1, 1)", "identity", "(0, 0) -- (1, 1)", "a"):
            self.fails(WrongKind, f"if {wrong}: fi;")
        self.fails(UnknownValue, "if a < 1: fi;")


class DefinitionTest(ProgramCase):
    def test_parameters(self):
        self.shows("def f(a, b, c, d, e, g) = show a - b; show c * d; show e / g; enddef; f(1, 2, 3, 4, 5, 6);",
                   -1, 12, Fraction(5, 6))
        self.shows("def f() = show 1; enddef; f(); f();", 1, 1)

    def test_values_of_each_kind(self):
        self.shows("def f(a, b, c, d, e) = show a; show b; show length(c); show d; show e; if e: show 9; fi; enddef; "
                   "f(1, (2, 3), (0, 0) -- (1, 1), identity, true);", 1, 2, 3, 1, 0, 0, 1, 0, 0, 1, 1, 9)

    def test_arguments_need_not_be_known(self):
        self.shows("def f(a, p) = a = 3; p = (4, 5); enddef; f(b, z1); show b; show z1;", 3, 4, 5)
        self.shows("def f(a) = a = 3; show a; enddef; f(b + 1); show b;", 3, 2)
        self.shows("def f(a) = a = 3; a = a; show a; enddef; f(whatever);", 3)
        machine = run("def f(a) = enddef; f(b); f(whatever);")
        self.assertEqual(machine.equations.unknowns, 2)

    def test_arguments_are_evaluated_from_left_to_right_and_once(self):
        machine = run("def f(a, b) = c = a; d = a; enddef; f(u + v, w);")
        self.assertEqual([machine.value(name) is None for name in "uvwcd"], [False] * 5)
        self.assertEqual(machine.value("w"), ("numeric", form(0, u2=1)))
        self.fails(DivisionByZero, "def f(a, b) = enddef; f(1 / 0, 1 + true);")
        self.fails(WrongKind, "def f(a, b) = enddef; f(1 + true, 1 / 0);")
        machine = run("def f(a) = b = a; c = a; enddef; f(whatever);")
        self.assertEqual(machine.equations.unknowns, 3)

    def test_wrong_calls(self):
        self.fails(UnknownValue, "f();")
        self.fails(UnknownValue, "f(1 / 0);")
        self.fails(UnknownValue, "f = 1; f(1);")
        text = "def f(a, b) = show 1; enddef; "
        for arguments in ("", "1", "1, 2, 3", "1 / 0", "1, 2, 1 / 0"):
            machine = self.fails(WrongKind, text + f"f({arguments});")
            self.assertEqual(machine.shown(), [])
        self.fails(WrongKind, "def f() = enddef; f(a);")
        machine = self.fails(WrongKind, "def f() = enddef; f(a);")
        self.assertIsNone(machine.value("a"))

    def test_definitions_are_apart_from_variables(self):
        self.shows("f = 3; def f(a) = show a + f; enddef; f(f); show f;", 6, 3)
        self.shows("def x() = show 1; enddef; def z() = show 2; enddef; x(); z();", 1, 2)

    def test_a_definition_replaces_an_earlier_one(self):
        self.shows("def f() = show 1; enddef; f(); def f(a) = show a; enddef; f(2);", 1, 2)
        self.fails(WrongKind, "def f() = enddef; def f(a) = enddef; f();")

    def test_a_definition_that_replaces_itself(self):
        self.shows("def f() = def f() = show 2; enddef; show 1; enddef; f(); f(); f();", 1, 2, 2)

    def test_a_definition_made_behind_its_caller(self):
        self.shows("def f(a) = g(a + 1); enddef; def g(b) = show b; enddef; f(1);", 2)
        self.shows("def f(a) = g(a + 1); enddef; def g(b) = show b; enddef; f(1); def g(b) = show -b; enddef; f(1);",
                   2, -2)
        machine = self.fails(UnknownValue, "def f(a) = show a; g(a); enddef; f(1);")
        run("def g(b) = show b + 5; enddef; f(3);", machine)
        self.assertEqual(machine.shown(), [(1, 1), (3, 1), (8, 1)])

    def test_nested_definitions(self):
        self.shows("def f(a) = def g(b) = show b; enddef; g(a); enddef; f(3); g(4);", 3, 4)
        self.fails(UnknownValue, "def f() = def g() = enddef; enddef; g();")
        machine = self.fails(UnknownValue, "def f(a) = def g() = show a; enddef; g(); enddef; f(3);")
        self.assertEqual(machine.value("a"), ("numeric", form(0, u0=1)))

    def test_definitions_in_loops_and_conditions(self):
        self.shows("for i = 1, 2: def f(a) = show a; enddef; f(i); endfor; f(7);", 1, 2, 7)
        self.shows("if true: def f() = show 1; enddef; fi; f();", 1)
        self.fails(UnknownValue, "if false: def f() = show 1; enddef; fi; f();")

    def test_recursion(self):
        self.shows("def f(n) = if n == 0: show 0; else: show n; f(n - 1); show n; fi; enddef; f(3);",
                   3, 2, 1, 0, 1, 2, 3)


class ScopeTest(ProgramCase):
    def test_a_definition_does_not_see_the_names_around_its_call(self):
        self.shows("i = 9; def f() = show i; enddef; for i = 1, 2: f(); endfor;", 9, 9)
        self.shows("a = 9; def f() = show a; enddef; def g(a) = f(); show a; enddef; g(1);", 9, 1)

    def test_a_definition_does_not_see_the_names_around_itself(self):
        self.shows("i = 9; for i = 1, 2: def f() = show i; enddef; f(); endfor; f();", 9, 9, 9)
        self.shows("a = 9; def g(a) = def f(b) = show a; show b; enddef; f(a); enddef; g(1);", 9, 1)

    def test_a_definition_sees_the_loops_in_it(self):
        self.shows("def f(a) = for i = a, a + 1: show i; show a; endfor; enddef; for i = 5: f(1); endfor;", 1, 1, 2, 1)

    def test_a_loop_with_the_name_of_a_parameter(self):
        self.shows("def f(a) = for a = 5, 6: show a; endfor; show a; enddef; f(1);", 5, 6, 1)
        self.shows("for a = 1, 2: def f(a) = show a; enddef; f(a + 5); show a; endfor;", 6, 1, 7, 2)

    def test_arguments_are_evaluated_outside(self):
        self.shows("def f(a, b) = show a; show b; enddef; def g(b, a) = f(a, b); enddef; g(1, 2);", 2, 1)
        self.shows("for i = 3: def f(i) = show i; enddef; f(i + 1); endfor;", 4)

    def test_variables_are_seen_everywhere(self):
        self.shows("def f() = a = 3; b[1] := 4; enddef; f(); show a; show b1;", 3, 4)
        self.shows("def f(a) = a1 = 5; show a1; enddef; f(2); show a1;", 5, 5)

    def test_conditions_have_no_names_of_their_own(self):
        self.shows("for i = 4: if i == 4: show i; fi; endfor;", 4)
        self.shows("def f(a) = if a: show 1; fi; enddef; f(true); f(false); f(1 < 2);", 1, 1)


class LocalNameTest(ProgramCase):
    def test_assignments(self):
        for text in ("for i = 1: i := 2; endfor;", "def f(i) = i := 2; enddef; f(1);",
                     "for i = 1: if true: i := 2; fi; endfor;", "for i = 1: for j = 2: i := 2; endfor; endfor;",
                     "for i = 1: i := 1 / 0; endfor;", "for i = 1: i := true; endfor;",
                     "def f(a) = for i = 1: a := i; endfor; enddef; f(1);", "for z = 1: z := (1, 2); endfor;",
                     "for x = 1: x := 2; endfor;", "declare path p; for p = 1: p := (1, 1); endfor;"):
            self.fails(WrongKind, text)
        machine = self.fails(WrongKind, "for i = 1: i := a; endfor;")
        self.assertIsNone(machine.value("a"))

    def test_assignments_with_a_subscript(self):
        machine = run("for i = 1, 2: i[i] := i + 5; endfor; def f(a) = a[a] := 7; enddef; f(3);")
        self.assertEqual([machine.value("i", 1), machine.value("i", 2), machine.value("a", 3)],
                         [numeric(6), numeric(7), numeric(7)])

    def test_assignments_where_the_name_is_not_seen(self):
        self.shows("def f() = i := 5; enddef; for i = 1, 2: f(); show i; endfor; show i;", 1, 2, 5)

    def test_a_declaration_does_not_affect_it(self):
        self.shows("for i = 1, 2: declare pair i; show i; endfor; i = (3, 4); show i;", 1, 2, 3, 4)
        self.shows("def f(a) = declare path a; show a; enddef; f(7);", 7)
        self.fails(WrongKind, "for i = 1: declare pair i; i := (1, 2); endfor;")
        machine = run("a = 1; def f(a) = declare numeric a; show a; enddef; f(2);")
        self.assertIsNone(machine.value("a"))

    def test_z_as_a_name(self):
        self.shows("z = (8, 9); for z = 1, 2: show z; endfor; show z;", 1, 2, 8, 9)
        self.shows("def f(z) = show z; enddef; f(5); f((1, 2));", 5, 1, 2)
        self.shows("z1 = (8, 9); for z = 1: show z1; endfor;", 8, 9)
        machine = run("for z = 1, 2: endfor;")
        self.assertEqual(machine.equations.unknowns, 0)

    def test_z_beside_names_x_and_y(self):
        self.shows("z = (8, 9); for x = 1: for y = 2: show z; show x; show y; endfor; endfor;", 8, 9, 1, 2)
        machine = run("for x = 1: z = (x + 1, 5); endfor;")
        self.assertEqual(machine.value("z"), pair(2, 5))
        machine = run("def f(x, y) = z := (y, x); enddef; f(1, 2);")
        self.assertEqual(machine.value("z"), pair(2, 1))
        self.shows("def f(x) = x1 := 3; y1 := x; show z1; enddef; f(7);", 3, 7)

    def test_names_of_definitions(self):
        self.shows("def f(f) = show f; enddef; f(3);", 3)
        self.shows("def f(a) = show a; enddef; for f = 1, 2: f(f); endfor;", 1, 2)


class CharacterTest(ProgramCase):
    def test_a_definition_may_begin_and_end_a_character(self):
        machine = run("def box(c, w) = beginchar(c, w, 1, 0); fill (0, 0) -- (w, 0) -- (w, 1) -- (0, 1) -- cycle; "
                      "endchar; enddef; for i = 1 step 1 until 3: box(64 + i, i); endfor;")
        self.assertEqual([c[0] for c in machine.characters_made()], [65, 66, 67])
        self.assertEqual([c[3] for c in machine.characters_made()], [((1,),), ((1, 1),), ((1, 1, 1),)])

    def test_beginchar_does_not_change_names(self):
        self.shows("for x = 1: " + OPEN + "show x; endchar; endfor;", 1)
        self.shows("def f(y) = " + OPEN + "show y; y1 = 2; show y1; endchar; enddef; f(5);", 5, 2)


class RunTest(ProgramCase):
    def test_definitions_stay_and_names_do_not(self):
        machine = Machine()
        run("def f(a) = show a; enddef; for i = 1: f(i); endfor;", machine)
        run("f(2); for i = 3: f(i); endfor;", machine)
        self.assertEqual(machine.shown(), [(1, 1), (2, 1), (3, 1)])
        self.assertIsNone(machine.value("i"))


if __name__ == "__main__":
    unittest.main()
