"""Point 28: sweeps of pens, and the pixels that they cover."""

import unittest
from random import Random

from fontwinding.hulls import corners
from fontwinding.pens import cover_rows, extent, sweep
from fontwinding.winding import winding_number
from tests.support import blank, is_rows, pixels

DOT = [(0, 0)]
STROKE = [(-32, 0), (32, 0)]
SQUARE = [(-32, -32), (32, -32), (32, 32), (-32, 32)]
HUGE = 10 ** 30


def covered(pen, outline):
    """The pixels that point 28 names, center by center."""
    found = {}
    for p, q in list(zip(outline, outline[1:])) or [(outline[0], outline[0])]:
        around = sweep(pen, p, q)
        around = around + around[:1]
        for i in range(-8, 40):
            for j in range(-16, 32):
                if winding_number(around, 64 * i + 32, 64 * j + 32):
                    found[i, j] = 1
    return found


class SweepTest(unittest.TestCase):
    def test_a_pen_of_one_corner(self):
        self.assertEqual(sweep(DOT, (5, 6), (1, 2)), [(1, 2), (5, 6)])
        self.assertEqual(sweep([(10, 20)], (5, 6), (1, 2)), [(11, 22), (15, 26)])
        self.assertEqual(sweep([(10, 20)], (5, 6), (5, 6)), [(15, 26)])

    def test_a_pen_of_two_corners(self):
        self.assertEqual(sweep(STROKE, (0, 0), (0, 64)), [(-32, 0), (32, 0), (32, 64), (-32, 64)])
        self.assertEqual(sweep(STROKE, (0, 0), (64, 0)), [(-32, 0), (96, 0)])
        self.assertEqual(sweep(STROKE, (3, 4), (3, 4)), [(-29, 4), (35, 4)])

    def test_a_pen_of_more_corners(self):
        self.assertEqual(sweep(SQUARE, (0, 0), (64, 0)), [(-32, -32), (96, -32), (96, 32), (-32, 32)])
        self.assertEqual(
            sweep(SQUARE, (0, 0), (64, 64)), [(-32, -32), (32, -32), (96, 32), (96, 96), (32, 96), (-32, 32)])
        self.assertEqual(sweep(SQUARE, (64, 64), (0, 0)), sweep(SQUARE, (0, 0), (64, 64)))
        self.assertEqual(sweep(SQUARE, (7, -7), (7, -7)), [(-25, -39), (39, -39), (39, 25), (-25, 25)])

    def test_huge_ones(self):
        self.assertEqual(sweep(STROKE, (0, 0), (0, HUGE)), [(-32, 0), (32, 0), (32, HUGE), (-32, HUGE)])

    def test_the_pen_stays(self):
        pen = list(SQUARE)
        sweep(pen, (0, 0), (64, 64)).clear()
        self.assertEqual(pen, SQUARE)


class CoverRowsTest(unittest.TestCase):
    def test_one_grid_point_counts_as_one_line(self):
        told = cover_rows(SQUARE, [(32, 32)])
        self.assertTrue(is_rows(told))
        self.assertEqual(pixels(told), {(0, 0): 1})
        self.assertEqual(cover_rows(SQUARE, [(32, 32), (32, 32)]), told)
        wide = [(-100, -100), (100, -100), (100, 100), (-100, 100)]
        self.assertEqual(sorted(pixels(cover_rows(wide, [(0, 0)]))), [(-2, -2), (-2, -1), (-2, 0), (-2, 1), (-1, -2),
                         (-1, -1), (-1, 0), (-1, 1), (0, -2), (0, -1), (0, 0), (0, 1), (1, -2), (1, -1), (1, 0), (1, 1)])

    def test_open_and_closed(self):
        way = [(32, 32), (32 + 4 * 64, 32), (32 + 4 * 64, 32 + 2 * 64)]
        told = cover_rows(SQUARE, way)
        self.assertEqual(sorted(pixels(told)), [(0, 0), (1, 0), (2, 0), (3, 0), (4, 0), (4, 1), (4, 2)])
        told = pixels(cover_rows(SQUARE, way + way[:1]))
        self.assertEqual(told, covered(SQUARE, way + way[:1]))
        self.assertIn((2, 1), told)

    def test_sweeps_of_one_or_two_corners_cover_nothing(self):
        for pen, outline in ((DOT, [(0, 0)]), (DOT, [(0, 0), (999, 777), (0, 900), (0, 0)]),
                             ([(32, 32)], [(0, 0), (640, 640)]), (STROKE, [(32, 32)]),
                             (STROKE, [(0, 32), (2000, 32)]), ([(0, -32), (0, 32)], [(32, 0), (32, 900)])):
            self.assertEqual(cover_rows(pen, outline), blank())

    def test_a_pen_of_two_corners(self):
        told = pixels(cover_rows(STROKE, [(32, 0), (32, 192)]))
        self.assertEqual(told, {(0, 0): 1, (0, 1): 1, (0, 2): 1})

    def test_a_pixel_that_is_covered_more_than_once(self):
        back_and_forth = [(32, 32), (160, 32)] * 5
        self.assertEqual(pixels(cover_rows(SQUARE, back_and_forth)), {(0, 0): 1, (1, 0): 1, (2, 0): 1})

    def test_beyond_the_canvas(self):
        self.assertEqual(cover_rows(SQUARE, [(-HUGE, -HUGE)]), blank())
        told = pixels(cover_rows(SQUARE, [(-HUGE, 32), (HUGE, 32)]))
        self.assertEqual(told, {(i, 0): 1 for i in range(-8, 40)})
        everything = [(-HUGE, -HUGE), (HUGE, -HUGE), (HUGE, HUGE), (-HUGE, HUGE)]
        self.assertEqual(cover_rows(everything, [(5, 5)]), [[1] * 48 for _ in range(48)])

    def test_any_pens_and_outlines(self):
        chance = Random(28)
        for _ in range(25):
            reach = chance.choice((20, 100, 300))
            pen = corners([(chance.randint(-reach, reach), chance.randint(-reach, reach))
                           for _ in range(chance.randint(1, 7))])
            outline = [(chance.randint(-900, 2900), chance.randint(-1400, 2300)) for _ in range(chance.randint(1, 4))]
            given = (list(pen), list(outline))
            told = cover_rows(pen, outline)
            self.assertTrue(is_rows(told))
            self.assertEqual(pixels(told), covered(pen, outline))
            self.assertEqual((pen, outline), given)

    def test_rows_that_are_returned_are_new(self):
        cover_rows(SQUARE, [(32, 32)])[16][8] = 5
        self.assertEqual(pixels(cover_rows(SQUARE, [(32, 32)])), {(0, 0): 1})


class ExtentTest(unittest.TestCase):
    def test_extent(self):
        self.assertEqual(extent(DOT), (0, 0, 0, 0))
        self.assertEqual(extent([(7, -9)]), (7, -9, 7, -9))
        self.assertEqual(extent([(-3, -8), (5, 2), (4, 9), (-1, 1)]), (-3, -8, 5, 9))
        self.assertEqual(extent([(HUGE, -HUGE), (0, 0)]), (0, -HUGE, HUGE, 0))
        self.assertIs(type(extent(DOT)), tuple)


if __name__ == "__main__":
    unittest.main()
