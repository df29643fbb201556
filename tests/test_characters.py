"""Points 47 and 50 to 52: shown numbers, and the statements that make characters."""

import unittest
from fractions import Fraction

from fontwinding.errors import DivisionByZero, OutOfRange, TooGreat, TooMany, UnknownValue, WrongKind, WrongOrder
from fontwinding.filling import fill_rows
from fontwinding.hulls import corners
from fontwinding.joins import join_points
from fontwinding.machine import Machine
from fontwinding.outlines import grid_point, outline
from fontwinding.pens import cover_rows
from tests.programs import OPEN, ProgramCase, numeric, run, state_of
from tests.support import pixels, points

BOX = "(0, 0) -- (2, 0) -- (2, 1) -- (0, 1) -- cycle"
OPEN_PATH = "(0, 0) -- (2, 0) -- (2, 1)"
PEN = "(-1, -1) -- (1, -1) -- (1, 1) -- (-1, 1)"
WHOLE = "(-8, -16) -- (40, -16) -- (40, 32) -- (-8, 32) -- cycle"


class ShowTest(ProgramCase):
    def test_each_kind(self):
        self.shows("show 1 / 3; show (1, 2); show identity shifted (4, 5); show true; show false;",
                   Fraction(1, 3), 1, 2, 4, 5, 1, 0, 0, 1, 1, 0)
        self.assertEqual(run("show true; show false; show 2 / 4;").shown(), [(1, 1), (0, 1), (1, 2)])

    def test_refused(self):
        for wrong in ("(0, 0) -- (1, 1)", "(0, 0) -- cycle", "reverse((1, 2))"):
            self.refuses(WrongKind, f"show {wrong};")
        self.fails(WrongKind, "declare path p; p := (1, 2); show p;")
        self.fails(UnknownValue, "show a;")
        self.fails(UnknownValue, "show (1, a);")

    def test_two_hundred_numbers(self):
        machine = run("for i = 1 step 1 until 200: show i; endfor;")
        self.assertEqual(len(machine.shown()), 200)
        for text in ("show 1;", "show true;", "show (1, 2);", "show identity;"):
            self.refuses(TooMany, text, machine)
        self.refuses(WrongKind, "show (0, 0) -- (1, 1);", machine)
        self.fails(UnknownValue, "show a;", machine)
        self.assertEqual(len(machine.shown()), 200)

    def test_nearly_two_hundred_numbers(self):
        for count, fits, fails in ((199, "show 1;", "show (1, 2);"), (198, "show (1, 2);", "show identity;"),
                                   (195, "show (1, 2);", "show identity;"), (194, "show identity;", None)):
            machine = run(f"for i = 1 step 1 until {count}: show i; endfor;")
            if fails:
                self.refuses(TooMany, fails, machine)
            run(fits, machine)
        self.assertEqual(len(machine.shown()), 200)

    def test_over_several_runs(self):
        machine = Machine()
        for _ in range(2):
            run("for i = 1 step 1 until 100: show i; endfor;", machine)
        self.refuses(TooMany, "show 1;", machine)


class BeginTest(ProgramCase):
    def test_begin_and_end(self):
        machine = Machine()
        run("beginchar(65, 1, 2, 3);", machine)
        self.assertIs(machine.is_open, True)
        self.assertEqual(machine.characters_made(), ())
        run("endchar;", machine)
        self.assertIs(machine.is_open, False)
        self.assertEqual(machine.characters_made(), ((65, 0, 0, (), (64, 128, 192, 0)),))

    def test_operands(self):
        operands = ["65", "1", "1", "1"]
        for at in range(4):
            for wrong, error in (("true", WrongKind), ("(1, 1)", WrongKind), ("a", UnknownValue),
                                 ("1 / 0", DivisionByZero), ("-1", OutOfRange), ("-1 / 64", OutOfRange),
                                 ("100 + 28", OutOfRange), ("identity", WrongKind)):
                text = ", ".join(operands[:at] + [wrong] + operands[at + 1:])
                machine = self.fails(error, f"beginchar({text});")
                self.assertFalse(machine.is_open)

    def test_each_operand_is_checked_as_soon_as_it_is_evaluated(self):
        self.fails(WrongKind, "beginchar(true, 1 / 0, 1, 1);")
        self.fails(DivisionByZero, "beginchar(1 / 0, true, 1, 1);")
        self.fails(UnknownValue, "beginchar(1, a, true, 1 / 0);")
        machine = self.fails(WrongKind, "beginchar(1, 1, true, b);")
        self.assertIsNone(machine.value("b"))
        # The range comes behind all of them.
        self.fails(DivisionByZero, "beginchar(200, 1, 1, 1 / 0);")
        self.fails(WrongKind, "beginchar(200, -1, 1, true);")

    def test_ranges(self):
        for code in ("0", "127", "64 + 1", "5.0"):
            run(f"beginchar({code}, 1, 1, 1);")
        for code in ("-1", "128", "0.5", "126 + 1 / 2", "100000000000000"):
            self.refuses(OutOfRange, f"beginchar({code}, 1, 1, 1);")
        for size in ("0", "100", "99.99", "1 / 1000"):
            run(f"beginchar(1, {size}, {size}, {size});")
        for size in ("-0.001", "100.001", "-1", "101"):
            self.refuses(OutOfRange, f"beginchar(1, {size}, 1, 1);")
            self.refuses(OutOfRange, f"beginchar(1, 1, {size}, 1);")
            self.refuses(OutOfRange, f"beginchar(1, 1, 1, {size});")

    def test_order(self):
        machine = run(OPEN)
        self.refuses(WrongOrder, "beginchar(66, 1, 1, 1);", machine)
        self.refuses(WrongOrder, "beginchar(200, -1, 1, 1);", machine)
        self.refuses(WrongKind, "beginchar(200, true, 1, 1);", machine)
        self.refuses(DivisionByZero, "beginchar(200, 1, 1, 1 / 0);", machine)
        self.refuses(WrongOrder, "endchar;")
        self.refuses(WrongOrder, "endchar;", run(OPEN + "endchar;"))

    def test_what_it_sets_anew(self):
        machine = run("x = 1; x5 = 2; z6 = (3, 4); a = 5; xy = 6; declare pair p; p = (7, 8); " + OPEN +
                      f"fill {BOX}; pickup {PEN}; italic 3; z = (9, 9); endchar;")
        self.assertEqual(len(machine.picture.on_pixels()), 2)
        self.assertEqual(machine.pen(), [(-64, -64), (64, -64), (64, 64), (-64, 64)])
        self.assertEqual(machine.value("x"), numeric(9))
        unknowns = machine.equations.unknowns
        run("beginchar(66, 1, 1, 0);", machine)
        self.assertEqual(machine.picture.on_pixels(), [])
        self.assertEqual(machine.picture.total(), 0)
        self.assertEqual(machine.pen(), [(0, 0)])
        for name, subscript in (("x", None), ("y", None), ("x", 5), ("z", 6), ("x", 6), ("y", 6), ("z", None)):
            self.assertIsNone(machine.value(name, subscript))
        self.assertEqual(machine.value("a"), numeric(5))
        self.assertEqual(machine.value("xy"), numeric(6))
        self.assertEqual(machine.equations.unknowns, unknowns)
        run("endchar;", machine)
        self.assertEqual(machine.characters_made()[1], (66, 0, 0, (), (64, 64, 0, 0)))

    def test_a_beginchar_that_fails_sets_nothing(self):
        machine = run(OPEN + f"z = (1, 2); fill {BOX}; pickup {PEN}; endchar;")
        self.refuses(OutOfRange, "beginchar(128, 1, 1, 0);", machine)
        self.assertIsNotNone(machine.value("z"))
        run(OPEN + f"z = (1, 2); fill {BOX}; pickup {PEN};", machine)
        self.refuses(WrongOrder, OPEN, machine)
        self.assertIsNotNone(machine.value("z"))


class OrderTest(ProgramCase):
    def test_statements_without_a_character(self):
        for word in ("fill", "unfill", "draw", "undraw", "pickup"):
            for path in (BOX, "(1, 1)", OPEN_PATH):
                self.refuses(WrongOrder, f"{word} {path};")
            self.refuses(WrongKind, f"{word} 1;")
            self.refuses(WrongKind, f"{word} identity;")
            self.refuses(WrongKind, f"{word} true;")
            self.fails(UnknownValue, f"{word} z;")
            self.refuses(DivisionByZero, f"{word} (1 / 0, 1);")
            self.fails(UnknownValue, f"declare path p; {word} p;")
        self.refuses(WrongOrder, "italic 1;")
        self.refuses(WrongOrder, "italic 101;")
        self.refuses(WrongKind, "italic true;")
        self.fails(UnknownValue, "italic a;")

    def test_statements_with_a_character(self):
        for word in ("fill", "unfill"):
            for path in ("(1, 1)", OPEN_PATH, f"subpath(0, 4, {BOX})"):
                self.refuses(WrongKind, f"{word} {path};", run(OPEN))
            self.fails(UnknownValue, f"{word} z;", run(OPEN))
        for word in ("fill", "unfill", "draw", "undraw", "pickup"):
            run(f"{OPEN} {word} {BOX};")
            for wrong in ("1", "identity", "true"):
                self.refuses(WrongKind, f"{word} {wrong};", run(OPEN))
        for word in ("draw", "undraw", "pickup"):
            run(f"{OPEN} {word} (1, 1); {word} {OPEN_PATH};")
            self.fails(UnknownValue, f"{word} (a, 1);", run(OPEN))

    def test_other_statements_may_stand_anywhere(self):
        text = ("declare pair p; a = 1; b := 2; show a; ligtable 1: 2 kern 3; for i = 1: if true: fi; endfor; "
                "def f() = enddef; f(); ")
        run(text + OPEN + text.replace("kern 3", "kern 4") + "endchar; show a;")


class ItalicTest(ProgramCase):
    def test_range(self):
        for number, wanted in (("0", 0), ("100", 6400), ("1 / 2", 32), ("1 / 128", 1), ("1 / 129", 0), ("99.99", 6399)):
            machine = run(OPEN + f"italic {number}; endchar;")
            self.assertEqual(machine.characters_made()[0][4], (64, 64, 0, wanted))
        for number in ("-1", "-0.001", "100.001", "1000"):
            self.refuses(OutOfRange, f"italic {number};", run(OPEN))
        for wrong in ("(1, 1)", "true", "identity", "(0, 0) -- (1, 1)"):
            self.refuses(WrongKind, f"italic {wrong};", run(OPEN))

    def test_the_last_one_counts(self):
        self.assertEqual(run(OPEN + "italic 3; italic 4; endchar;").characters_made()[0][4][3], 256)
        machine = self.fails(OutOfRange, OPEN + "italic 3; italic 101;")
        run("endchar;", machine)
        self.assertEqual(machine.characters_made()[0][4][3], 192)


class WeightTest(ProgramCase):
    def filled(self, *pairs, joins=None):
        joins = joins or ["line"] * len(pairs)
        return fill_rows(outline(join_points(points(*pairs), joins, cycle=True)))

    def test_fill_and_unfill(self):
        machine = run(OPEN + f"fill {BOX};")
        self.assertEqual(pixels(machine.picture.rows()), {(0, 0): 1, (1, 0): 1})
        run(f"fill {BOX}; unfill (1, 0) -- (3, 0) -- (3, 1) -- (1, 1) -- cycle;", machine)
        self.assertEqual(pixels(machine.picture.rows()), {(0, 0): 2, (1, 0): 1, (2, 0): -1})
        run(f"fill reverse({BOX}); unfill reverse({BOX}); unfill reverse({BOX});", machine)
        self.assertEqual(pixels(machine.picture.rows()), {(0, 0): 3, (1, 0): 2, (2, 0): -1})

    def test_curves(self):
        machine = run(OPEN + "fill (0, 0) .. (6, 1) .. (4, 9) .. cycle;")
        self.assertEqual(machine.picture.rows(),
                         self.filled((0, 0), (6, 1), (4, 9), joins=[("smooth", (1, 1))] * 3))

    def test_draw_and_undraw(self):
        machine = run(OPEN + f"pickup {PEN}; draw (0, 0) -- (5, 3); draw (2, 2); undraw (5, 0) .. (1, 1) .. cycle;")
        pen = corners([grid_point(p) for p in points((-1, -1), (1, -1), (1, 1), (-1, 1))])
        drawn = [cover_rows(pen, outline(path)) for path in (
            join_points(points((0, 0), (5, 3)), ["line"]), join_points(points((2, 2)), []),
            join_points(points((5, 0), (1, 1)), [("smooth", (1, 1))] * 2, cycle=True))]
        wanted = [[a + b - c for a, b, c in zip(*rows)] for rows in zip(*drawn)]
        self.assertEqual(machine.picture.rows(), wanted)
        self.assertIn(-1, [item for row in wanted for item in row])
        self.assertIn(2, [item for row in wanted for item in row])

    def test_the_pen_of_one_corner_draws_nothing(self):
        machine = run(OPEN + "draw (0, 0) -- (9, 9); draw (1 / 2, 1 / 2);")
        self.assertEqual(pixels(machine.picture.rows()), {})

    def test_a_thin_pen(self):
        machine = run(OPEN + "pickup (0, 0) -- (0, 1); draw (0, 0) -- (3, 0); draw (0, 3) -- (0, 9);")
        self.assertEqual(pixels(machine.picture.rows()), {(0, 0): 1, (1, 0): 1, (2, 0): 1})

    def test_pickup(self):
        machine = run(OPEN + "pickup (0, 0) .. (2, 0) .. (1, 1 / 2) .. (2, 2) .. (0, 2) .. cycle;")
        self.assertEqual(machine.pen(), [(0, 0), (128, 0), (128, 128), (0, 128)])
        run("pickup (1, 2);", machine)
        self.assertEqual(machine.pen(), [(64, 128)])
        run("pickup (0, 0) .. controls (9, 9) .. (1 / 3, -1);", machine)
        self.assertEqual(machine.pen(), [(21, -64), (0, 0)])
        self.refuses(WrongKind, "pickup 1;", machine)

    def test_too_great(self):
        machine = run(OPEN)
        loop = "(0, 0) -- (2, 0) -- (2, 2) -- (0, 2) -- "
        spiral = "fill " + (loop * 6).removesuffix(" -- ") + " -- cycle;"
        run(spiral, machine)
        self.assertEqual(machine.picture.weight(0, 0), 6)
        # Nothing in a program comes near the limit of the weights, so they are brought there from outside.
        rows = [[0] * 48 for _ in range(48)]
        rows[16][8] = 9993 - 5
        machine.picture.add_rows(rows)
        self.refuses(TooGreat, spiral, machine)
        run(f"pickup {PEN}; fill {BOX}; fill {BOX}; fill {BOX}; fill {BOX}; fill {BOX};", machine)
        self.assertEqual(machine.picture.weight(0, 0), 9999)
        self.refuses(TooGreat, f"fill {BOX};", machine)
        self.refuses(TooGreat, "draw (0, 0);", machine)
        run(f"undraw (0, 0); draw (0, 0); unfill {BOX};", machine)
        self.assertEqual(machine.picture.weight(0, 0), 9998)


class LimitTest(ProgramCase):
    FILLS = f"for i = 1 step 1 until {{}}: fill {BOX}; unfill {BOX}; endfor;"
    DRAWS = "for i = 1 step 1 until {}: draw (1, 1); undraw (1, 1) -- (2, 2); endfor;"

    def test_sixty_fills_and_unfills(self):
        machine = run(OPEN + self.FILLS.format(30))
        for text in (f"fill {BOX};", f"unfill {BOX};"):
            self.refuses(TooMany, text, machine)
        run("draw (1, 1); pickup (1, 1); italic 1; endchar;" + OPEN, machine)
        self.refuses(TooMany, f"fill {BOX};", machine)

    def test_sixty_over_characters_and_runs(self):
        machine = Machine()
        for code in range(6):
            run(f"beginchar({code}, 1, 1, 0);" + self.FILLS.format(5) + "endchar;", machine)
        run(OPEN, machine)
        self.refuses(TooMany, f"unfill {BOX};", machine)

    def test_those_that_fail_do_not_count(self):
        machine = run(OPEN + self.FILLS.format(29) + f"fill {BOX};")
        self.refuses(WrongKind, f"fill {OPEN_PATH};", machine)
        self.refuses(WrongKind, "fill (1, 1);", machine)
        rows = [[9999] * 48 for _ in range(48)]
        rows[16][8] = rows[16][9] = 9998
        machine.picture.wipe()
        machine.picture.add_rows(rows)
        self.refuses(TooGreat, f"fill {WHOLE};", machine)
        run(f"fill {BOX};", machine)
        # The limit comes before the weights.
        self.refuses(TooMany, f"fill {WHOLE};", machine)

    def test_twenty_draws_and_undraws(self):
        machine = run(OPEN + self.DRAWS.format(10))
        for text in ("draw (1, 1);", "undraw (1, 1) -- (2, 2);", f"draw {BOX};"):
            self.refuses(TooMany, text, machine)
        run(f"fill {BOX}; endchar; {OPEN}", machine)
        self.refuses(TooMany, "draw (1, 1);", machine)
        run("endchar;", machine)
        self.refuses(WrongOrder, "draw (1, 1);", machine)

    def test_draws_that_fail_do_not_count(self):
        machine = run(OPEN + f"pickup {PEN};" + self.DRAWS.format(9) + "draw (1, 1);")
        machine.picture.wipe()
        machine.picture.add_rows([[9999] * 48 for _ in range(48)])
        self.refuses(TooGreat, "draw (1, 1);", machine)
        run("undraw (1, 1);", machine)
        self.refuses(TooMany, "draw (20, 20);", machine)

    def test_the_limits_come_behind_the_order_and_the_kind(self):
        machine = run(OPEN + self.FILLS.format(30) + self.DRAWS.format(10))
        self.refuses(WrongKind, "fill (1, 1);", machine)
        self.refuses(WrongKind, f"unfill {OPEN_PATH};", machine)
        self.refuses(WrongKind, "draw 1;", machine)
        self.fails(UnknownValue, "draw z;", machine)
        run("endchar;", machine)
        self.refuses(WrongOrder, f"fill {BOX};", machine)
        self.refuses(WrongOrder, f"fill {OPEN_PATH};", machine)

    def test_twenty_four_characters(self):
        machine = run("for i = 1 step 1 until 24: beginchar(i, i, 1, 0); endchar; endfor;")
        self.assertEqual(len(machine.characters_made()), 24)
        run("beginchar(99, 1, 1, 0);", machine)
        self.refuses(TooMany, "endchar;", machine)
        self.assertTrue(machine.is_open)
        self.refuses(WrongOrder, "beginchar(5, 1, 1, 0);", machine)

    def test_a_character_that_is_replaced(self):
        machine = run("for i = 1 step 1 until 24: beginchar(i, i, 1, 0); endchar; endfor; beginchar(7, 50, 2, 3); "
                      f"fill {BOX}; endchar;")
        self.assertEqual(len(machine.characters_made()), 24)
        self.assertEqual(machine.characters_made()[6], (7, 0, 0, ((1, 1),), (3200, 128, 192, 0)))
        self.assertEqual(machine.characters_made()[7], (8, 0, 0, (), (512, 64, 0, 0)))

    def test_the_limits_of_one_machine_are_not_those_of_another(self):
        run(OPEN + self.FILLS.format(30) + self.DRAWS.format(10))
        run(OPEN + self.FILLS.format(30) + self.DRAWS.format(10))


class CharacterTest(ProgramCase):
    def character(self, text, metrics="1, 1, 0"):
        machine = run(f"beginchar(65, {metrics}); {text} endchar;")
        self.assertEqual(len(machine.characters_made()), 1)
        return machine.characters_made()[0]

    def test_order_of_the_codes(self):
        machine = run("for i = 70, 3, 127, 0, 65: beginchar(i, 1, 1, 1); endchar; endfor;")
        self.assertEqual([c[0] for c in machine.characters_made()], [0, 3, 65, 70, 127])

    def test_without_pixels(self):
        self.assertEqual(self.character(""), (65, 0, 0, (), (64, 64, 0, 0)))
        self.assertEqual(self.character(f"fill {BOX}; unfill {BOX};"), (65, 0, 0, (), (64, 64, 0, 0)))
        self.assertEqual(self.character(f"unfill {BOX};"), (65, 0, 0, (), (64, 64, 0, 0)))
        self.assertEqual(self.character("fill (50, 50) -- (60, 50) -- (60, 60) -- cycle;"),
                         (65, 0, 0, (), (64, 64, 0, 0)))

    def test_rows_from_the_top(self):
        text = "fill (2, 3) -- (6, 3) -- (6, 5) -- (4, 5) -- (4, 4) -- (2, 4) -- cycle;"
        self.assertEqual(self.character(text)[:4], (65, 2, 3, ((0, 0, 1, 1), (1, 1, 1, 1))))
        self.assertEqual(self.character(f"fill {BOX}; fill (4, -3) -- (5, -3) -- (5, -2) -- (4, -2) -- cycle;")[:4],
                         (65, 0, -3, ((1, 1, 0, 0, 0), (0,) * 5, (0,) * 5, (0, 0, 0, 0, 1))))

    def test_a_hole(self):
        text = ("fill (0, 0) -- (3, 0) -- (3, 3) -- (0, 3) -- cycle; unfill (1, 1) -- (2, 1) -- (2, 2) -- (1, 2) "
                "-- cycle; unfill (1, 1) -- (2, 1) -- (2, 2) -- (1, 2) -- cycle;")
        self.assertEqual(self.character(text)[3], ((1, 1, 1), (1, 0, 1), (1, 1, 1)))

    def test_the_whole_canvas(self):
        self.assertEqual(self.character(f"fill {WHOLE};")[:4], (65, -8, -16, ((1,) * 48,) * 48))
        self.assertEqual(self.character("fill (-100, -100) -- (100, -100) -- (100, 100) -- (-100, 100) -- cycle;")[:4],
                         (65, -8, -16, ((1,) * 48,) * 48))

    def test_the_borders(self):
        for i, j in ((-8, -16), (39, -16), (-8, 31), (39, 31)):
            pixel = f"((0, 0) -- (1, 0) -- (1, 1) -- (0, 1) -- cycle) shifted ({i}, {j})"
            self.assertEqual(self.character(f"fill {pixel};"), (65, i, j, ((1,),), (64, 64, 0, 0)))
        rows = self.character("fill (-8, -16) -- (-7, -16) -- (-7, -15) -- (-8, -15) -- cycle; "
                              "fill (39, 31) -- (40, 31) -- (40, 32) -- (39, 32) -- cycle;")
        self.assertEqual(rows[:3], (65, -8, -16))
        self.assertEqual((len(rows[3]), {len(row) for row in rows[3]}, sum(map(sum, rows[3]))), (48, {48}, 2))
        self.assertEqual((rows[3][0][47], rows[3][47][0]), (1, 1))

    def test_kinds_of_values(self):
        code, left, bottom, rows, metrics = self.character(f"fill {BOX};")
        self.assertTrue(all(type(n) is int for n in (code, left, bottom) + metrics))
        self.assertIs(type(rows), tuple)
        self.assertTrue(all(type(row) is tuple and all(type(n) is int for n in row) for row in rows))

    def test_metrics(self):
        self.assertEqual(self.character("", "1 / 3, 1 / 128, 100")[4], (21, 1, 6400, 0))
        self.assertEqual(self.character("italic 2.5;", "0, 0, 0")[4], (0, 0, 0, 160))
        self.assertEqual(self.character("", "99.999, 1 / 129, 0.5")[4], (6400, 0, 32, 0))

    def test_what_is_made_stays(self):
        machine = run(OPEN + f"fill {BOX}; endchar;")
        made = machine.characters_made()
        run(f"beginchar(66, 2, 2, 2); fill {WHOLE}; endchar;", machine)
        self.assertEqual(made, ((65, 0, 0, ((1, 1),), (64, 64, 0, 0)),))
        self.assertEqual(machine.characters_made()[:1], made)

    def test_after_endchar(self):
        machine = run(OPEN + f"pickup {PEN}; fill {BOX}; endchar;")
        self.assertEqual(machine.picture.on_pixels(), [(0, 0), (1, 0)])
        self.assertEqual(len(machine.pen()), 4)
        before = state_of(machine)
        self.fails(WrongOrder, "endchar;", machine)
        self.assertEqual(state_of(machine), before)


if __name__ == "__main__":
    unittest.main()
