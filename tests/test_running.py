"""Point 38: steps, open blocks, and what stays when a statement raises an error."""

import unittest

from fontwinding.equations import Equations
from fontwinding.errors import (
    Contradiction, DivisionByZero, OutOfRange, TooDeep, TooGreat, TooLong, UnknownValue, WrongKind, WrongOrder,
)
from fontwinding.machine import Machine
from fontwinding.pictures import Picture
from fontwinding.statements import parse
from tests.programs import OPEN, ProgramCase, form, numeric, pair, run, state_of


class MachineTest(ProgramCase):
    def test_resolutions(self):
        for resolution in range(1, 21):
            Machine(resolution=resolution)
        for resolution in (0, -1, 21, 10 ** 30, -10 ** 30):
            with self.assertRaises(OutOfRange):
                Machine(resolution=resolution)
        self.shows("show pix;", 1)

    def test_a_new_machine(self):
        machine = Machine()
        self.assertEqual(machine.shown(), [])
        self.assertEqual(machine.pen(), [(0, 0)])
        self.assertIs(machine.is_open, False)
        self.assertEqual(machine.characters_made(), ())
        self.assertEqual(machine.steps_made(), ())
        self.assertEqual(machine.labels_made(), ())
        self.assertIsInstance(machine.equations, Equations)
        self.assertEqual(machine.equations.unknowns, 0)
        self.assertIsInstance(machine.picture, Picture)
        self.assertEqual(machine.picture.on_pixels(), [])
        self.assertIsNone(machine.value("a"))

    def test_machines_are_apart(self):
        one, other = Machine(), Machine()
        run("a = 1; show 1; def f() = enddef; ligtable 1: 2 kern 3; " + OPEN, one)
        self.assertEqual(state_of(other), state_of(Machine()))
        self.fails(UnknownValue, "f();", other)

    def test_run_returns_nothing_and_no_statements_do_nothing(self):
        machine = Machine()
        self.assertIsNone(machine.run(()))
        self.assertEqual(state_of(machine), state_of(Machine()))

    def test_lists_that_are_returned_are_copies(self):
        machine = run(OPEN + "pickup (0, 0) -- (1, 0) -- (0, 1); show 7;")
        machine.shown().append(5)
        machine.shown().clear()
        machine.pen().clear()
        self.assertEqual(machine.shown(), [(7, 1)])
        self.assertEqual(machine.pen(), [(0, 0), (64, 0), (0, 64)])

    def test_the_tree_is_not_modified_and_runs_again(self):
        tree = parse("for i = 1, 2: show i; endfor; def f(a) = show a; enddef; f(5);")
        machine = Machine()
        machine.run(tree)
        machine.run(tree)
        self.assertEqual(machine.shown(), [(1, 1), (2, 1), (5, 1)] * 2)
        self.assertEqual(tree, parse("for i = 1, 2: show i; endfor; def f(a) = show a; enddef; f(5);"))


class StepsTest(ProgramCase):
    def steps(self, text, count):
        """The text has this many steps: it runs behind as many others as go into 4000, and not behind one more."""
        tree = parse(text)
        one = parse("a := 0;")
        Machine().run(one * (4000 - count) + tree)
        with self.assertRaises(TooLong):
            Machine().run(one * (4001 - count) + tree)

    def test_plain_statements(self):
        Machine().run(parse("a := 0;") * 4000)
        with self.assertRaises(TooLong):
            Machine().run(parse("a := 0;") * 4001)

    def test_each_statement_is_a_step(self):
        ended = "endchar; "
        for text, count in (
                ("declare pair b;", 1), ("b := 1;", 1), ("b = 1;", 1), ("show 1;", 1),
                (OPEN + ended, 2), (OPEN + "fill (0, 0) -- cycle; " + ended, 3),
                (OPEN + "unfill (0, 0) -- cycle; " + ended, 3), (OPEN + "draw (0, 0); " + ended, 3),
                (OPEN + "undraw (0, 0); " + ended, 3), (OPEN + "pickup (0, 0); " + ended, 3),
                (OPEN + "italic 1; " + ended, 3), ("ligtable 1: 2 kern 3, 4 =: 5;", 1)):
            self.steps(text, count)

    def test_conditions(self):
        self.steps("if true: fi;", 1)
        self.steps("if false: fi;", 1)
        self.steps("if false: a := 1; elseif false: a := 1; else: a := 1; a := 2; fi;", 3)
        self.steps("if false: a := 1; elseif true: a := 2; else: a := 1; a := 2; fi;", 2)

    def test_loops(self):
        self.steps("for i = 1 step 1 until 0: a := 1; endfor;", 1)
        self.steps("for i = 7: endfor;", 2)
        self.steps("for i = 7, 8, 9: a := 1; endfor;", 7)
        self.steps("for i = 1 step 1 until 10: endfor;", 11)
        self.steps("for i = 1 step 1 until 10: a := 1; b := 2; endfor;", 31)
        self.steps("for i = 1 step 1 until 3: for j = 1 step 1 until 4: a := 1; endfor; endfor;", 1 + 3 * (1 + 1 + 8))

    def test_loops_to_the_end(self):
        self.shows("for i = 1 step 1 until 1999: a := i; endfor; show a;", 1999)
        self.fails(TooLong, "for i = 1 step 1 until 1999: a := i; endfor; show a; show a;")
        machine = self.fails(TooLong, "for i = 1 step 1 until 4000: endfor;")
        self.assertEqual(machine.value("i"), None)
        run("for i = 1 step 1 until 3999: endfor;")

    def test_definitions_and_calls(self):
        self.steps("def f() = a := 1; a := 2; enddef;", 1)
        self.steps("def f() = enddef; f();", 2)
        self.steps("def f() = a := 1; a := 2; enddef; f(); f();", 7)
        self.steps("def f(n) = if n > 1: f(n - 1); fi; enddef; f(5);", 1 + 9 + 1)

    def test_the_step_is_counted_before_the_statement_does_anything(self):
        one = parse("a := 0;")
        machine = Machine()
        with self.assertRaises(TooLong):
            machine.run(one * 4000 + parse("show 1 / 0;"))
        machine = Machine()
        with self.assertRaises(TooLong):
            machine.run(one * 3999 + parse("for i = 1, 2: show i; endfor;"))
        self.assertEqual(machine.shown(), [])
        machine = Machine()
        with self.assertRaises(TooLong):
            machine.run(one * 3997 + parse("for i = 1, 2: show i; endfor;"))
        self.assertEqual(machine.shown(), [(1, 1)])

    def test_the_values_of_a_loop_come_before_its_first_pass(self):
        with self.assertRaises(DivisionByZero):
            Machine().run(parse("a := 0;") * 3999 + parse("for i = 1, 1 / 0: endfor;"))

    def test_steps_begin_at_0_in_each_run(self):
        machine = Machine()
        tree = parse("a := 0;") * 4000
        for _ in range(3):
            machine.run(tree)
        with self.assertRaises(TooLong):
            machine.run(tree + parse("a := 0;"))
        machine.run(tree)
        self.fails(WrongKind, "if 1: fi;", machine)
        machine.run(tree)


class BlocksTest(ProgramCase):
    def test_calls(self):
        text = "def f(n) = show n; if n > 1: f(n - 1); fi; enddef; "
        # Each call opens a body, and each call but the last one a body of an `if`, too.
        self.shows(text + "f(12);", *range(12, 0, -1))
        machine = self.fails(TooDeep, text + "f(13);")
        self.assertEqual(machine.shown(), [(n, 1) for n in range(13, 1, -1)])

    def test_calls_alone(self):
        names = "abcdefghijklmnopqrstuvwxyz"
        text = "".join(f"def {a}() = {b}(); enddef; " for a, b in zip(names, names[1:]))
        text += "def z() = show 1; enddef; "
        self.shows(text + "c();", 1)
        self.fails(TooDeep, text + "b();")

    def test_a_definition_that_calls_itself_without_end(self):
        machine = self.fails(TooDeep, "def f() = show 1; f(); enddef; f();")
        self.assertEqual(len(machine.shown()), 24)

    def test_an_empty_body_is_a_block(self):
        text = "def e() = enddef; def f(n) = if n > 1: f(n - 1); else: e(); fi; enddef; "
        # f(11) opens 22 bodies, the last one that of `else`; e is the 23rd.
        run(text + "f(11);")
        run(text + "if true: f(11); fi;")
        self.fails(TooDeep, text + "if true: if true: f(11); fi; fi;")
        for end in ("if true: fi;", "for i = 1: endfor;", "e();", "if false: else: fi;"):
            text = f"def e() = enddef; def f(n) = if n > 1: f(n - 1); else: {end} fi; enddef; "
            run(text + "if true: f(11); fi;")
            self.fails(TooDeep, text + "f(12);")

    def test_no_body_is_no_block(self):
        for end in ("if false: fi;", "for i = 1 step 1 until 0: endfor;", "def g() = enddef;"):
            text = f"def f(n) = if n > 1: f(n - 1); else: {end} fi; enddef; "
            run(text + "f(12);")

    def test_loops(self):
        text = "def f(n) = for i = n: show i; if n > 1: f(n - 1); fi; endfor; enddef; "
        self.shows(text + "f(8);", *range(8, 0, -1))
        self.fails(TooDeep, text + "if true: f(8); if true: f(8); fi; fi;")
        # f(8) opens 23 bodies: 3 for each call but the last one, which opens 2.
        self.shows(text + "if true: f(8); fi;", *range(8, 0, -1))
        self.fails(TooDeep, text + "if true: if true: f(8); fi; fi;")

    def test_too_deep_comes_after_the_pass_has_been_counted(self):
        text = "def f(n) = if n > 1: f(n - 1); else: for i = 1: endfor; fi; enddef; "
        tree = parse(text + "f(12);")
        # 1 for the definition, 1 for the first call, 12 conditions, 11 calls, 1 loop, 1 pass.
        one = parse("a := 0;")
        with self.assertRaises(TooDeep):
            Machine().run(one * (4000 - 27) + tree)
        with self.assertRaises(TooLong):
            Machine().run(one * (4001 - 27) + tree)

    def test_too_deep_comes_after_conditions_and_arguments(self):
        text = "def g(a) = enddef; def f(n) = if n > 1: f(n - 1); else: {} fi; enddef; f(12);"
        self.fails(WrongKind, text.format("if 1: fi;"))
        self.fails(DivisionByZero, text.format("g(1 / 0);"))
        self.fails(WrongKind, text.format("g();"))
        self.fails(UnknownValue, text.format("h();"))
        self.fails(DivisionByZero, text.format("for i = 1 / 0: endfor;"))
        self.fails(TooDeep, text.format("g(1);"))

    def test_blocks_are_closed_again(self):
        machine = Machine()
        body = "def f(n) = if n > 1: f(n - 1); fi; enddef; "
        run(body + "f(12); f(12); f(12); for i = 1 step 1 until 30: f(11); endfor;", machine)
        self.fails(TooDeep, "f(13);", machine)
        run("f(12);", machine)
        run("for i = 1: f(12); endfor;", machine)
        self.fails(TooDeep, "for i = 1: if true: f(12); fi; endfor;", machine)
        self.fails(WrongKind, "for i = 1: if true: show (0, 0) -- cycle; fi; endfor;", machine)
        run("f(12);", machine)

    def test_the_deepest_expression_in_the_deepest_block(self):
        expression = "1"
        for _ in range(15):
            expression = f"true or true and not 1 -- 1 + 2 * -max(1, {expression}) -- cycle < 3"
        body = f"def g() = show {expression}; enddef; "
        loop = ("def f(n) = for k = 1 step 1 until 1: if n < 7: f(n + 1); else: if true: if true: {} "
                "fi; fi; fi; endfor; enddef; f(1);")
        machine = run(body + loop.format("show 1;"))
        self.assertEqual(machine.shown(), [(1, 1)])
        self.fails(WrongKind, loop.format("g();"), machine)


class ErrorTest(ProgramCase):
    def test_what_the_statements_before_have_done_stays(self):
        machine = self.fails(DivisionByZero, "a = 3; show a; show 1 / 0; show 2; b = 1;")
        self.assertEqual(machine.shown(), [(3, 1)])
        self.assertEqual(machine.value("a"), numeric(3))
        self.assertIsNone(machine.value("b"))

    def test_a_run_after_an_error(self):
        machine = self.fails(DivisionByZero, OPEN + "a = 3; show 1 / 0;")
        self.assertTrue(machine.is_open)
        run("show a; endchar;", machine)
        self.assertEqual(machine.shown(), [(3, 1)])
        self.assertEqual(len(machine.characters_made()), 1)

    def test_variables_and_unknowns_that_were_used_stay(self):
        machine = self.fails(UnknownValue, "show a + b1 * whatever;")
        self.assertEqual(machine.equations.unknowns, 3)
        self.assertEqual(machine.value("a"), ("numeric", form(0, u0=1)))
        self.assertEqual(machine.value("b", 1), ("numeric", form(0, u1=1)))
        machine = self.fails(WrongKind, "declare pair p; show a + p;")
        self.assertEqual(machine.equations.unknowns, 3)
        self.assertEqual(machine.value("p"), ("pair", form(0, u1=1), form(0, u2=1)))
        machine = self.fails(UnknownValue, "declare path p; show (a, p);")
        self.assertEqual(machine.equations.unknowns, 1)
        self.assertIsNone(machine.value("p"))

    def test_unknowns_of_the_right_side_stay_too(self):
        machine = self.fails(WrongKind, "a = z3;")
        self.assertEqual(machine.equations.unknowns, 3)
        self.assertEqual(machine.value("z", 3), ("pair", form(0, u1=1), form(0, u2=1)))

    def test_the_equation_of_the_x_parts_stays(self):
        machine = self.fails(Contradiction, "y = 5; (x, y) = (1, 2);")
        self.assertEqual(machine.value("z"), pair(1, 5))
        machine = self.fails(Contradiction, "x = 5; (x, y) = (1, 2);")
        self.assertEqual(machine.value("z"), ("pair", form(5), form(0, u1=1)))
        machine = self.fails(TooGreat, "y = 100000000000000 * 10000; z = (3, -y);")
        self.assertEqual(machine.value("x"), numeric(3))
        self.assertEqual(machine.value("y"), numeric(10 ** 18))

    def test_the_completed_statements_of_a_body_stay(self):
        machine = self.fails(DivisionByZero, "for i = 2, 1, 0: show 2 / i; a[i] := i; endfor; show 9;")
        self.assertEqual(machine.shown(), [(1, 1), (2, 1)])
        self.assertEqual(machine.value("a", 1), numeric(1))
        self.assertIsNone(machine.value("a", 0))
        machine = self.fails(WrongOrder, "if true: show 1; endchar; show 2; fi;")
        self.assertEqual(machine.shown(), [(1, 1)])
        machine = self.fails(WrongOrder, "def f(t) = show t; for i = 1: show i; endchar; endfor; enddef; f(7);")
        self.assertEqual(machine.shown(), [(7, 1), (1, 1)])
        self.fails(WrongOrder, "f(8);", machine)
        self.assertEqual(machine.shown(), [(7, 1), (1, 1), (8, 1), (1, 1)])

    def test_names_of_loops_are_gone_after_an_error(self):
        machine = self.fails(DivisionByZero, "for i = 1: show 1 / 0; endfor;")
        run("i := 5; show i;", machine)
        self.assertEqual(machine.shown(), [(5, 1)])

    def test_the_statement_itself_has_done_nothing(self):
        machine = run("a = 1; show a; " + OPEN + "italic 3; pickup (0, 0) -- (1, 0) -- (0, 1);")
        for error, text in (
                (Contradiction, "a = 2;"), (UnknownValue, "show b;"), (WrongKind, "show (0, 0) -- (1, 1);"),
                (WrongOrder, OPEN), (OutOfRange, "italic 101;"), (WrongKind, "fill (0, 0) -- (1, 1);"),
                (OutOfRange, "ligtable 1: 2 kern 3, 128: 4 kern 5;"), (UnknownValue, "b := c;"),
                (WrongKind, "pickup 1;"), (OutOfRange, "declare pair a, x;")):
            self.fails(error, text, machine)
            self.assertEqual(machine.value("a"), numeric(1))
            self.assertEqual(machine.shown(), [(1, 1)])
            self.assertEqual(machine.pen(), [(0, 0), (64, 0), (0, 64)])
            self.assertEqual((machine.steps_made(), machine.labels_made()), ((), ()))
            self.assertTrue(machine.is_open)
        run("endchar;", machine)
        self.assertEqual(machine.characters_made(), ((65, 0, 0, (), (64, 64, 0, 192)),))


class SecondRunTest(ProgramCase):
    def test_what_earlier_runs_did_stays(self):
        machine = Machine(resolution=4)
        picture, equations = machine.picture, machine.equations
        run("a + b = 3; def f(n) = show n; enddef; declare pair p; " + OPEN
            + "fill (0, 0) -- (1, 0) -- (0, 2) -- cycle; pickup (0, 0) -- (1, 0) -- (0, 1); "
            "ligtable 1: 2 kern 3;", machine)
        self.assertIs(machine.picture, picture)
        self.assertIs(machine.equations, equations)
        run("a - b = 1; f(a); f(b); f(pix); p = (1, 2); endchar; ligtable 2: 1 =: 3;", machine)
        self.assertEqual(machine.shown(), [(2, 1), (1, 1), (4, 1)])
        self.assertEqual(machine.value("p"), pair(1, 2))
        self.assertEqual(machine.characters_made()[0][3], ((1,),))
        self.assertEqual(len(machine.steps_made()), 2)
        self.assertIs(machine.picture, picture)
        self.assertIs(machine.equations, equations)
        run(OPEN, machine)
        self.assertIs(machine.picture, picture)
        self.assertEqual(picture.on_pixels(), [])


if __name__ == "__main__":
    unittest.main()
