"""Point 68: compiling a text."""

import unittest

from fontwinding.compiler import compile_font
from fontwinding.errors import (
    BadFile, Contradiction, DivisionByZero, EndlessPair, FontError, InvalidSyntax, OutOfRange, TooDeep, TooGreat,
    TooLong, TooMany, UnknownValue, WrongKind, WrongOrder,
)
from fontwinding.files import read_font, write_font
from fontwinding.fonts import Font
from fontwinding.machine import Machine
from fontwinding.statements import parse
from tests.fonts import parts
from tests.lines import ligature

BOX = "beginchar(65, 2, 1, 0); fill (0, 0) -- (2, 0) -- (2, 1) -- (0, 1) -- cycle; endchar; "


class CompileTest(unittest.TestCase):
    def test_example_of_the_interface(self):
        font = compile_font("beginchar(65, 1, 1, 0); fill (0, 0) -- (2, 0) -- (0, 2) -- cycle; endchar;")
        self.assertEqual(font.character(65), (65, 0, 0, ((1,),), (64, 64, 0, 0)))

    def test_an_empty_text(self):
        font = compile_font("")
        self.assertIs(type(font), Font)
        self.assertEqual(parts(font), ((), (), ()))

    def test_what_the_machine_has_made(self):
        text = BOX + "beginchar(60, 1, 1, 1 / 2); italic 1; endchar; ligtable 65: 60 kern -1, edge: edge =: 65;"
        font = compile_font(text)
        machine = Machine()
        machine.run(parse(text))
        self.assertEqual(parts(font), (machine.characters_made(), machine.steps_made(), machine.labels_made()))
        self.assertEqual([one[0] for one in font], [60, 65])
        self.assertEqual(font.steps, ((60, ("kern", -64), False), (128, ligature("=:", 65), True)))
        self.assertEqual(font.labels, ((65, 0), (128, 1)))
        self.assertEqual(font.line([]), ([65], [0, 0]))

    def test_each_font_has_a_machine_of_its_own(self):
        compile_font("a = 1; def f() = enddef; " + BOX)
        self.assertEqual(parts(compile_font("a = 2;")), ((), (), ()))
        with self.assertRaises(UnknownValue):
            compile_font("f();")

    def test_resolutions(self):
        text = "beginchar(1, 1, 1, 0); fill ((0, 0) -- (1, 0) -- (1, 1) -- (0, 1) -- cycle) scaled pix; endchar;"
        for resolution in (1, 2, 20):
            rows = compile_font(text, resolution=resolution).character(1)[3]
            self.assertEqual(rows, ((1,) * resolution,) * resolution)
        self.assertEqual(compile_font(text).character(1)[3], ((1,),))

    def test_resolutions_out_of_range(self):
        for resolution in (0, 21, -1, 10 ** 20, -20):
            for text in ("", "show 1 / 0;", "this is no program", "%", "(" * 17, "a" * 7000, BOX[:-10]):
                with self.assertRaises(OutOfRange) as caught:
                    compile_font(text, resolution=resolution)
                self.assertIs(type(caught.exception), OutOfRange)


class ErrorTest(unittest.TestCase):
    CASES = (
        (TooLong, " " * 6001), (InvalidSyntax, "%"), (InvalidSyntax, "fill"), (TooDeep, "(" * 17),
        (InvalidSyntax, "a;"),
        (TooLong, "for i = 1 step 1 until 4000: endfor;"), (TooDeep, "def f() = f(); enddef; f();"),
        (DivisionByZero, "show 1 / 0;"), (TooGreat, "show 100000000000000 * 100000;"), (Contradiction, "1 = 2;"),
        (OutOfRange, "show a[100];"), (OutOfRange, "beginchar(128, 1, 1, 1);"), (WrongKind, "show true + 1;"),
        (UnknownValue, "show a;"), (WrongOrder, "endchar;"), (EndlessPair, "ligtable 1: 2 |=: 2;"),
        (TooMany, "for i = 1 step 1 until 81: a[i] = i; endfor;"),
        (TooMany, "for i = 1 step 1 until 81: whatever = i; endfor;"),
        (WrongOrder, "beginchar(65, 1, 1, 1);"), (WrongOrder, BOX + "beginchar(65, 1, 1, 1);"),
    )

    def test_each_error(self):
        for error, text in self.CASES:
            with self.assertRaises(error) as caught:
                compile_font(text)
            self.assertIs(type(caught.exception), error, text)
            self.assertIsInstance(caught.exception, FontError)
            self.assertNotIsInstance(caught.exception, BadFile)

    def test_position(self):
        with self.assertRaises(InvalidSyntax) as caught:
            compile_font(BOX + "fill fill;")
        self.assertEqual(caught.exception.position, len(BOX) + 5)

    def test_a_character_that_is_left_open_comes_last(self):
        for error, text in self.CASES:
            if error not in (TooLong, InvalidSyntax) and not text.startswith("(") and "char" not in text:
                with self.assertRaises(error):
                    compile_font("beginchar(1, 1, 1, 1); " + text)

    def test_errors_of_the_text_come_before_those_of_the_run(self):
        with self.assertRaises(InvalidSyntax):
            compile_font("show 1 / 0; fill")
        with self.assertRaises(TooDeep):
            compile_font("1 = 2; " + "(" * 17)


class WholeTest(unittest.TestCase):
    def test_a_font_of_many_characters(self):
        text = ("def bar(x, y, w, h) = fill (x, y) -- (x + w, y) -- (x + w, y + h) -- (x, y + h) -- cycle; enddef; "
                "for i = 0 step 1 until 23: beginchar(i + 40, i, 30 - i, i / 7); italic i / 3; "
                "bar(0, -i / 3, i + 1, i); if i mod 2 == 1: unfill (2, 0) .. (9, 1) .. (5, 8) .. cycle; fi; "
                "endchar; endfor; "
                "ligtable 40: 41: 42 kern 1, 43 =: 44, 45 |=:|> 46, 42: edge kern -3, edge: 50 =:|> 51;")
        font = compile_font(text)
        self.assertEqual(len(font), 24)
        self.assertEqual(parts(read_font(write_font(font))), parts(font))
        self.assertEqual([len(font.table(metric)) for metric in range(4)], [9, 5, 4, 3])
        self.assertEqual(font.line([40, 42, 41, 43, 50]), ([40, 42, 44, 50], [0, 64, 0, 0, 0]))


if __name__ == "__main__":
    unittest.main()
