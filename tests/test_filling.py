"""Point 25: the canvas, and outlines that are filled on it."""

import unittest
from random import Random

from fontwinding import filling
from fontwinding.filling import blank_rows, fill_rows
from fontwinding.winding import winding_number
from tests.support import blank, is_rows, pixels, rows_with

HUGE = 10 ** 40


def box(left, bottom, right, top):
    """The outline around a rectangle of pixels, counterclockwise."""
    return [(64 * x, 64 * y) for x, y in
            ((left, bottom), (right, bottom), (right, top), (left, top), (left, bottom))]


def center_by_center(outline):
    """The winding number about each center, row by row."""
    return [[winding_number(outline, 64 * i + 32, 64 * j + 32) for i in range(-8, 40)] for j in range(-16, 32)]


def inside(left, bottom, right, top):
    return [(i, j) for j in range(bottom, top) for i in range(left, right)]


class CanvasTest(unittest.TestCase):
    def test_constants(self):
        self.assertEqual((filling.LEFT, filling.BOTTOM, filling.SIZE), (-8, -16, 48))

    def test_blank_rows(self):
        self.assertEqual(blank_rows(), blank())
        self.assertTrue(is_rows(blank_rows()))

    def test_blank_rows_are_new_each_time_and_lists_of_their_own(self):
        rows = blank_rows()
        rows[3][5] = 7
        self.assertEqual(sum(map(sum, rows)), 7)
        rows[0].append(1)
        rows.pop()
        self.assertEqual(blank_rows(), blank())


class FillRowsTest(unittest.TestCase):
    def test_a_box(self):
        told = fill_rows(box(2, 3, 5, 4))
        self.assertTrue(is_rows(told))
        self.assertEqual(told, rows_with({(2, 3): 1, (3, 3): 1, (4, 3): 1}))

    def test_the_items_of_the_rows(self):
        for i, j in ((-8, -16), (39, 31), (-8, 31), (39, -16), (0, 0)):
            told = fill_rows(box(i, j, i + 1, j + 1))
            self.assertEqual(told[j + 16][i + 8], 1)
            self.assertEqual(pixels(told), {(i, j): 1})

    def test_the_sense_of_rotation(self):
        self.assertEqual(fill_rows(box(2, 3, 5, 4)[::-1]), rows_with({(2, 3): -1, (3, 3): -1, (4, 3): -1}))
        twice = box(0, 0, 1, 1) + box(0, 0, 2, 1)[1:]
        self.assertEqual(fill_rows(twice), rows_with({(0, 0): 2, (1, 0): 1}))

    def test_borders_through_centers(self):
        # The center (32, 32) is on the left and the lower border, (96, 96) on the right and the upper one.
        self.assertEqual(pixels(fill_rows([(32, 32), (96, 32), (96, 96), (32, 96), (32, 32)])), {(0, 0): 1})
        self.assertEqual(pixels(fill_rows([(33, 32), (97, 32), (97, 96), (33, 96), (33, 32)])), {(1, 0): 1})
        self.assertEqual(pixels(fill_rows([(32, 33), (96, 33), (96, 97), (32, 97), (32, 33)])), {(0, 1): 1})
        self.assertEqual(pixels(fill_rows([(33, 33), (96, 33), (96, 96), (33, 96), (33, 33)])), {})
        # A slanted border through the centers of (0, 0), (1, 1) and (2, 2).
        told = pixels(fill_rows([(0, 0), (192, 0), (192, 192), (0, 0)]))
        self.assertEqual(told, {(0, 0): 1, (1, 0): 1, (2, 0): 1, (1, 1): 1, (2, 1): 1, (2, 2): 1})
        told = pixels(fill_rows([(0, 0), (192, 192), (0, 192), (0, 0)]))
        self.assertEqual(told, {(0, 1): 1, (0, 2): 1, (1, 2): 1})

    def test_an_edge_of_two_outlines_is_filled_once(self):
        one = [(0, 0), (500, 100), (300, 700), (0, 0)]
        other = [(0, 0), (300, 700), (-200, 400), (0, 0)]
        both = [(0, 0), (500, 100), (300, 700), (-200, 400), (0, 0)]
        sums = [[a + b for a, b in zip(*rows)] for rows in zip(fill_rows(one), fill_rows(other))]
        self.assertEqual(sums, fill_rows(both))

    def test_beyond_the_canvas_on_each_side(self):
        self.assertEqual(fill_rows(box(-100, -100, 100, 100)), [[1] * 48 for _ in range(48)])
        wanted = {(-20, 0, -5, 2): (-8, 0, -5, 2), (37, 0, 60, 2): (37, 0, 40, 2),
                  (0, -50, 2, -14): (0, -16, 2, -14), (0, 30, 2, 90): (0, 30, 2, 32)}
        for given, seen in wanted.items():
            self.assertEqual(sorted(pixels(fill_rows(box(*given)))), sorted(inside(*seen)))

    def test_off_the_canvas(self):
        for given in ((-20, 0, -8, 5), (40, 0, 60, 5), (0, -50, 5, -16), (0, 32, 5, 90)):
            self.assertEqual(fill_rows(box(*given)), blank())
            self.assertEqual(fill_rows(box(*given)[::-1]), blank())

    def test_far_away(self):
        self.assertEqual(fill_rows(box(-HUGE, -HUGE, HUGE, HUGE)), [[1] * 48 for _ in range(48)])
        self.assertEqual(fill_rows(box(HUGE, HUGE, HUGE + 9, HUGE + 9)), blank())
        half = [(0, 0), (HUGE, 0), (HUGE, HUGE), (0, 0)]
        self.assertEqual(fill_rows(half), center_by_center(half))
        self.assertEqual(pixels(fill_rows(half))[(39, 31)], 1)

    def test_no_area(self):
        for outline in ([(5, 5)], [(5, 5), (5, 5)], [(0, 0), (900, 900), (0, 0)]):
            self.assertEqual(fill_rows(outline), blank())

    def test_any_outlines(self):
        chance = Random(25)
        for _ in range(40):
            reach = chance.choice((300, 2000, 5000, 10 ** 20))
            grid = chance.choice((1, 32))
            outline = [(grid * (chance.randint(-reach, reach) // grid), grid * (chance.randint(-reach, reach) // grid))
                       for _ in range(chance.randint(2, 9))]
            outline.append(outline[0])
            given = list(outline)
            told = fill_rows(outline)
            self.assertTrue(is_rows(told))
            self.assertEqual(told, center_by_center(outline))
            self.assertEqual(outline, given)

    def test_rows_that_are_returned_are_new(self):
        outline = box(2, 3, 5, 4)
        told = fill_rows(outline)
        told[19][10] = 9
        told[0].clear()
        self.assertEqual(fill_rows(outline), rows_with({(2, 3): 1, (3, 3): 1, (4, 3): 1}))


if __name__ == "__main__":
    unittest.main()
