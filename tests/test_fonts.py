"""Points 67 and 69: fonts, their tables, and their lines."""

import unittest
from itertools import accumulate
from random import Random

from fontwinding.errors import EndlessPair, OutOfRange, TooLong
from fontwinding.fonts import Font
from fontwinding.ligatures import endless_pairs
from fontwinding.metrics import LIMITS, least_tolerance
from fontwinding.settings import set_line
from tests.fonts import LABELS, NO_ROWS, STEPS, character, random_font
from tests.lines import ligature, table_of

L_ROWS = ((1, 0, 0), (1, 0, 0), (1, 1, 1))
FONT = Font((character(65, L_ROWS, -2, 5, (200, 64, 0, 10)), character(66, ((1,),), 39, 31, (300, 65, 1, 0)),
             character(70, (), 0, 0, (0, 66, 2, 0))), STEPS, LABELS)


class FontTest(unittest.TestCase):
    def test_attributes(self):
        characters = (NO_ROWS,)
        font = Font(characters, STEPS, LABELS)
        self.assertEqual((font.characters, font.steps, font.labels), (characters, STEPS, LABELS))
        empty = Font((), (), ())
        self.assertEqual((empty.characters, empty.steps, empty.labels), ((), (), ()))

    def test_length_and_loops(self):
        self.assertEqual([len(FONT), len(Font((), (), ()))], [3, 0])
        self.assertEqual([one for one in FONT], list(FONT.characters))
        self.assertEqual([one for one in FONT], list(FONT.characters))
        self.assertEqual(list(Font((), (), ())), [])

    def test_in(self):
        for code in range(-1, 130):
            self.assertIs(code in FONT, code in (65, 66, 70))
        self.assertFalse(0 in Font((), (), ()))

    def test_characters(self):
        for code, at in ((65, 0), (66, 1), (70, 2)):
            self.assertEqual(FONT.character(code), FONT.characters[at])
        for code in (0, 64, 67, 127, 128, -1, 10 ** 30):
            for told in (FONT.character, lambda c: FONT.pixel(c, 0, 0), lambda c: FONT.table_value(c, 0)):
                with self.assertRaises(OutOfRange):
                    told(code)

    def test_pixels(self):
        on = {(i, j) for i in range(-10, 50) for j in range(-20, 50) if FONT.pixel(65, i, j)}
        self.assertEqual(on, {(-2, 5), (-1, 5), (0, 5), (-2, 6), (-2, 7)})
        on = {(i, j) for i in range(-10, 50) for j in range(-20, 50) if FONT.pixel(66, i, j)}
        self.assertEqual(on, {(39, 31)})
        self.assertFalse(any(FONT.pixel(70, i, j) for i in range(-10, 50) for j in range(-20, 50)))
        self.assertIs(FONT.pixel(65, -2, 5), True)
        self.assertIs(FONT.pixel(65, -1, 6), False)
        for i, j in ((10 ** 20, 0), (-10 ** 20, 5), (0, -10 ** 20), (-3, 5), (1, 5), (-2, 4), (-2, 8)):
            self.assertIs(FONT.pixel(65, i, j), False)


class TableTest(unittest.TestCase):
    def test_tables(self):
        self.assertEqual([FONT.table(metric) for metric in range(4)],
                         [[0, 200, 300], [0, 64, 65, 66], [0, 1, 2], [0, 10]])
        self.assertEqual(Font((), (), ()).table(0), [0])

    def test_values(self):
        for one in FONT:
            self.assertEqual(tuple(FONT.table_value(one[0], metric) for metric in range(4)), one[4])

    def test_more_values_than_places(self):
        characters = tuple(character(code, (), 0, 0, (100 * code, 10 * code, code, code)) for code in range(24))
        font = Font(characters, (), ())
        self.assertEqual([len(font.table(metric)) for metric in range(4)], [9, 5, 4, 3])
        self.assertEqual(font.table(3), [0, 6, 18])
        self.assertEqual([font.table_value(code, 3) for code in (0, 1, 11, 12, 13, 23)], [0, 6, 6, 6, 18, 18])
        for metric in range(4):
            for code in range(24):
                self.assertIn(font.table_value(code, metric), font.table(metric))
            values = [one[4][metric] for one in characters]
            self.assertLessEqual(max(abs(font.table_value(code, metric) - values[code]) for code in range(24)),
                                 (least_tolerance(values, LIMITS[metric]) + 1) // 2)


class LineTest(unittest.TestCase):
    RULES = {(128, 65): ("kern", 5), (65, 66): ("kern", -20), (66, 65): ligature("=:", 90), (66, 128): ("kern", 7),
             (70, 70): ligature("|=:|", 65), (65, 70): ("kern", 1)}

    def font(self):
        return Font(FONT.characters, *table_of(self.RULES))

    def test_lines(self):
        font = self.font()
        for codes in ([], [65], [65, 66], [66, 65], [70, 70], [1, 2, 3], [65] * 398):
            copy = list(codes)
            self.assertEqual(font.line(codes), set_line(font.steps, font.labels, codes))
            self.assertEqual(codes, copy)

    def test_widths(self):
        font = self.font()
        for codes, width in (([], 0), ([65], 205), ([66], 307), ([65, 66], 200 + 300 + 5 - 20 + 7), ([66, 65], 0),
                             ([65, 70], 206), ([70, 70], 201), ([1, 65, 2], 200), ([90, 91], 0)):
            self.assertEqual(font.width(codes), width, codes)

    def test_positions(self):
        font = self.font()
        for codes, places in (([], []), ([65], [5]), ([66], [0]), ([65, 66], [5, 185]), ([66, 65], [0]),
                              ([65, 70], [5, 206]), ([70, 70], [0, 0, 201]),
                              ([1, 65, 2, 66, 66], [0, 0, 200, 200, 500])):
            self.assertEqual(font.positions(codes), places, codes)

    def test_the_table_value_counts(self):
        characters = tuple(character(code, (), 0, 0, (10 * code + 1, 0, 0, 0)) for code in range(1, 11))
        font = Font(characters, (), ())
        wanted = [font.table_value(code, 0) for code in range(1, 11)]
        self.assertNotEqual(wanted, [one[4][0] for one in characters])
        self.assertEqual(font.width(list(range(1, 11))), sum(wanted))
        self.assertEqual(font.positions(list(range(1, 11))), [0] + list(accumulate(wanted))[:-1])

    def test_kerns_without_a_glyph(self):
        font = Font((), *table_of({(128, 128): ("kern", 9)}))
        self.assertEqual((font.line([]), font.width([]), font.positions([])), (([], [9]), 9, []))

    def test_lines_that_are_too_long(self):
        font = self.font()
        for told in (font.line, font.width, font.positions):
            told([1] * 398)
            with self.assertRaises(TooLong):
                told([1] * 399)
            with self.assertRaises(TooLong):
                told([70] * 390)

    def test_an_endless_pair(self):
        font = Font((), ((1, ligature("|=:", 1), True),), ((2, 0),))
        self.assertEqual(endless_pairs(font.steps, font.labels), [(2, 1)])
        with self.assertRaises(EndlessPair):
            font.line([5])

    def test_random_lines(self):
        random = Random(21)
        for _ in range(100):
            font = random_font(random)
            codes = sorted({label[0] for label in font.labels} | {one[0] for one in font} | {5})
            codes = [random.choice([code for code in codes if code < 128]) for _ in range(random.randrange(10))]
            try:
                glyphs, kerns = font.line(codes)
            except TooLong:
                continue
            widths = [font.table_value(glyph, 0) if glyph in font else 0 for glyph in glyphs]
            self.assertEqual(font.width(codes), sum(widths) + sum(kerns))
            places = [kerns[0] + sum(widths[:at]) + sum(kerns[1:at + 1]) for at in range(len(glyphs))]
            self.assertEqual(font.positions(codes), places)


class CopyTest(unittest.TestCase):
    def test_lists_that_are_returned(self):
        font = Font(FONT.characters, *table_of(LineTest.RULES))
        for told in (lambda: font.table(0), lambda: font.positions([65, 66]), lambda: font.line([65, 66])[0],
                     lambda: font.line([65, 66])[1]):
            first = told()
            self.assertIs(type(first), list)
            kept = list(first)
            first.append(77)
            first[0] = 99
            self.assertEqual(told(), kept)
        self.assertEqual(font.characters, FONT.characters)

    def test_lists_that_are_given(self):
        codes = [65, 66]
        self.assertEqual(FONT.width(codes), 500)
        FONT.positions(codes)
        FONT.line(codes)
        self.assertEqual(codes, [65, 66])


if __name__ == "__main__":
    unittest.main()
