"""Point 64: fonts as bytes, and points 2 and 67: they are the same when they are read again."""

import unittest
from random import Random

from fontwinding.compiler import compile_font
from fontwinding.files import read_font, write_font
from fontwinding.fonts import Font
from fontwinding.packing import best_way, pack
from tests.fileform import parts_of
from tests.fonts import LABELS, NO_ROWS, STEPS, character, examples, parts, random_font
from tests.lines import MEANINGS, ligature


class WriteTest(unittest.TestCase):
    def test_example_of_the_interface(self):
        font = compile_font("beginchar(65, 1, 1, 0); fill (0, 0) -- (2, 0) -- (0, 2) -- cycle; endchar;")
        self.assertEqual(write_font(font), [1, 65, 24, 1, 1, 8, 16, 0, 64, 0, 64, 0, 0, 0, 0, 0, 1, 16, 0, 0])

    def test_no_characters(self):
        self.assertEqual(write_font(Font((), (), ())), [0, 0, 0])

    def test_a_character_without_pixels(self):
        self.assertEqual(write_font(Font((NO_ROWS,), (), ())),
                         [1, 65, 0, 0, 0, 0, 0, 0, 64, 0, 128, 0, 0, 0, 32, 0, 0, 0, 0])

    def test_the_byte_with_the_way(self):
        for rows, wanted in ((((0,),), 16), (((1,),), 24), (((1, 0, 1, 0, 1),), 14 * 16), (((0, 1, 0, 1, 0),), 14 * 16),
                             (((1,) * 14,), 8), (((0,) * 14,), 0), (((1,) * 13,), 13 * 16 + 8)):
            data = write_font(Font((character(3, rows),), (), ()))
            self.assertEqual(data[2], wanted)
            self.assertEqual(data[3:5], [len(rows[0]), len(rows)])

    def test_borders_and_metrics(self):
        data = write_font(Font((character(127, ((1,),), 39, 31, (6400, 255, 256, 1)),), (), ()))
        self.assertEqual(data, [1, 127, 24, 1, 1, 47, 47, 25, 0, 0, 255, 1, 0, 0, 1, 0, 1, 16, 0, 0])
        data = write_font(Font((character(0, ((1,),), -8, -16, (0, 0, 0, 0)),), (), ()))
        self.assertEqual(data[:7], [1, 0, 24, 1, 1, 0, 0])

    def test_packed_bytes(self):
        for rows in (((1, 0, 1, 0, 1),), ((1, 0, 1, 0, 1, 1, 0, 1, 0),), ((0, 0, 1),) * 48):
            data = write_font(Font((character(3, rows),), (), ()))
            nybbles = pack(rows, best_way(rows))
            size = (len(nybbles) + 1) // 2
            self.assertEqual(data[15:17], [0, size])
            self.assertEqual([half for byte in data[17:17 + size] for half in (byte // 16, byte % 16)],
                             nybbles + [0] * (len(nybbles) % 2))
            self.assertEqual(data[17 + size:], [0, 0])

    def test_many_packed_bytes(self):
        rows = tuple(tuple((i + j) % 2 for i in range(48)) for j in range(48))
        data = write_font(Font((character(3, rows, -8, -16),), (), ()))
        self.assertEqual(data[15:17], [1, 32])
        self.assertEqual(len(data), 17 + 288 + 2)

    def test_steps(self):
        for number, sign in enumerate(MEANINGS, 1):
            for is_last in (False, True):
                font = Font((), ((128, ligature(sign, 9), is_last), (5, ("kern", 0), True)), ())
                self.assertEqual(write_font(font), [0, 2, 128, number + 128 * is_last, 9, 5, 128, 25, 0, 0])
        for amount, high, low in ((-6400, 0, 0), (6400, 50, 0), (-1, 24, 255), (1, 25, 1), (-6145, 0, 255)):
            self.assertEqual(write_font(Font((), ((7, ("kern", amount), True),), ())), [0, 1, 7, 128, high, low, 0])
            self.assertEqual(write_font(Font((), ((7, ("kern", amount), False), (8, ("kern", 0), True)), ()))[2:6],
                             [7, 0, high, low])

    def test_labels(self):
        self.assertEqual(write_font(Font((), ((5, ("kern", 0), True),) * 3, ((0, 2), (127, 0), (128, 1)))),
                         [0, 3] + [5, 128, 25, 0] * 3 + [3, 0, 2, 127, 0, 128, 1])

    def test_bytes(self):
        for font in examples():
            data = write_font(font)
            self.assertIs(type(data), list)
            self.assertTrue(all(type(byte) is int and 0 <= byte <= 255 for byte in data))


class SameTest(unittest.TestCase):
    def test_reading_gives_the_same_font(self):
        for font in examples():
            before = parts(font)
            data = write_font(font)
            copy = list(data)
            again = read_font(data)
            self.assertEqual(parts(again), before)
            self.assertEqual(parts(font), before)
            self.assertEqual(data, copy)
            self.assertEqual(parts_of(data)[:3], before)
            self.assertEqual(write_font(again), data)

    def test_random_fonts(self):
        random = Random(2)
        for _ in range(200):
            font = random_font(random)
            self.assertEqual(parts(read_font(write_font(font))), parts(font))

    def test_kinds_of_values(self):
        font = read_font(write_font(Font((character(3, ((1, 0), (0, 1))), NO_ROWS), STEPS, LABELS)))
        self.assertIs(type(font), Font)
        for code, left, bottom, rows, metrics in font.characters:
            self.assertTrue(all(type(n) is int for n in (code, left, bottom) + metrics))
            self.assertEqual((type(rows), type(metrics)), (tuple, tuple))
            self.assertTrue(all(type(row) is tuple and all(type(n) is int for n in row) for row in rows))
        for step in font.steps:
            self.assertEqual([type(part) for part in step], [int, tuple, bool])
            if step[1][0] == "ligature":
                self.assertEqual([type(part) for part in step[1]], [str, int, bool, bool, int])
        self.assertEqual({type(part) for part in (font.characters, font.steps, font.labels)}, {tuple})
        self.assertTrue(all(type(label) is tuple for label in font.labels))


if __name__ == "__main__":
    unittest.main()
