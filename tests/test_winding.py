"""Points 23, 24 and 26: crossings, winding numbers, lines and areas."""

import inspect
import unittest
from fractions import Fraction
from random import Random

from fontwinding.winding import crossing, double_area, lines, winding_number

HUGE = 10 ** 40
SQUARE = [(0, 0), (64, 0), (64, 64), (0, 64), (0, 0)]
# From (0, 0) twice as high as wide: at the height y the position is y / 2.
UP = ((0, 0), (50, 100))
DOWN = ((50, 100), (0, 0))


def position(a, b, y):
    """The horizontal position of a line at a height, a fraction."""
    return a[0] + Fraction((b[0] - a[0]) * (y - a[1]), b[1] - a[1])


def from_the_left(a, b, x, y):
    """The crossing of point 23 over fractions."""
    if a[1] <= y < b[1] and position(a, b, y) <= x:
        return -1
    if b[1] <= y < a[1] and position(a, b, y) <= x:
        return 1
    return 0


def from_the_right(outline, x, y):
    """The winding number counted from the other side (point 24)."""
    total = 0
    for a, b in zip(outline, outline[1:]):
        if a[1] <= y < b[1] and position(a, b, y) > x:
            total += 1
        if b[1] <= y < a[1] and position(a, b, y) > x:
            total -= 1
    return total


def any_outline(chance, many, reach):
    found = [(chance.randint(-reach, reach), chance.randint(-reach, reach)) for _ in range(many)]
    return found + found[:1]


class CrossingTest(unittest.TestCase):
    def test_to_the_left_on_the_line_and_to_the_right(self):
        for line, told in ((UP, -1), (DOWN, 1)):
            self.assertEqual(crossing(*line, 24, 50), 0)
            self.assertEqual(crossing(*line, 25, 50), told)
            self.assertEqual(crossing(*line, 26, 50), told)
            self.assertEqual(crossing(*line, HUGE, 50), told)
            self.assertEqual(crossing(*line, -HUGE, 50), 0)

    def test_the_position_is_not_rounded(self):
        for line, told in ((UP, -1), (DOWN, 1)):
            # At the height 51 the position is 25 and a half.
            self.assertEqual(crossing(*line, 25, 51), 0)
            self.assertEqual(crossing(*line, 26, 51), told)
        for line, told in ((((0, 0), (-50, 100)), -1), (((-50, 100), (0, 0)), 1)):
            self.assertEqual(crossing(*line, -26, 51), 0)
            self.assertEqual(crossing(*line, -25, 51), told)

    def test_the_lower_end_counts_and_the_upper_end_does_not(self):
        for line, told in ((UP, -1), (DOWN, 1)):
            self.assertEqual(crossing(*line, 1000, 0), told)
            self.assertEqual(crossing(*line, 0, 0), told)
            self.assertEqual(crossing(*line, -1, 0), 0)
            self.assertEqual(crossing(*line, 1000, -1), 0)
            self.assertEqual(crossing(*line, 1000, 99), told)
            self.assertEqual(crossing(*line, 1000, 100), 0)
            self.assertEqual(crossing(*line, 50, 100), 0)

    def test_horizontal_lines_and_points_never_cross(self):
        for x in (-5, 0, 5, 10, 15):
            for a, b in (((0, 0), (10, 0)), ((10, 0), (0, 0)), ((5, 0), (5, 0))):
                self.assertEqual(crossing(a, b, x, 0), 0)
                self.assertEqual(crossing(a, b, x, 1), 0)

    def test_vertical_lines(self):
        for x, told in ((4, 0), (5, 1), (6, 1)):
            self.assertEqual(crossing((5, 9), (5, -9), x, 0), told)
            self.assertEqual(crossing((5, -9), (5, 9), x, 0), -told)

    def test_huge_grid_points(self):
        low, high = (-HUGE, -HUGE), (HUGE, HUGE)
        for d in (-1, 0, 1):
            self.assertEqual(crossing(low, high, 7 + d, 7), 0 if d < 0 else -1)
            self.assertEqual(crossing(high, low, 7 + d, 7), 0 if d < 0 else 1)
        self.assertEqual(crossing((0, 0), (1, HUGE), 0, 0), -1)
        self.assertEqual(crossing((0, 0), (1, HUGE), 0, 1), 0)
        self.assertEqual(crossing((0, 0), (1, HUGE), 1, HUGE - 1), -1)

    def test_any_lines(self):
        chance = Random(23)
        for _ in range(4000):
            reach = chance.choice((3, 10, 10 ** 25))
            a, b, c = ((chance.randint(-reach, reach), chance.randint(-reach, reach)) for _ in range(3))
            told = crossing(a, b, *c)
            self.assertIs(type(told), int)
            self.assertEqual(told, from_the_left(a, b, *c))


class WindingNumberTest(unittest.TestCase):
    def test_example_of_the_interface(self):
        self.assertEqual(winding_number([(0, 0), (64, 0), (64, 64), (0, 64), (0, 0)], 32, 32), 1)

    def test_inside_and_outside(self):
        for outline, inside in ((SQUARE, 1), (SQUARE[::-1], -1)):
            self.assertEqual(winding_number(outline, 1, 63), inside)
            for x, y in ((-1, 32), (65, 32), (32, -1), (32, 65), (-1, -1), (65, 65), (HUGE, 32), (32, -HUGE)):
                self.assertEqual(winding_number(outline, x, y), 0)

    def test_on_the_border(self):
        for outline, inside in ((SQUARE, 1), (SQUARE[::-1], -1)):
            for x, y in ((0, 0), (0, 32), (32, 0), (0, 63), (63, 0)):
                self.assertEqual(winding_number(outline, x, y), inside)
            for x, y in ((64, 0), (64, 32), (64, 64), (32, 64), (0, 64)):
                self.assertEqual(winding_number(outline, x, y), 0)

    def test_twice_around_and_both_ways(self):
        twice = SQUARE + SQUARE[1:]
        self.assertEqual(winding_number(twice, 32, 32), 2)
        self.assertEqual(winding_number(twice[::-1], 32, 32), -2)
        self.assertEqual(winding_number(SQUARE + SQUARE[-2::-1], 32, 32), 0)
        eight = [(0, 0), (64, 64), (64, 0), (0, 64), (0, 0)]
        self.assertEqual([winding_number(eight, 8, 32), winding_number(eight, 56, 32)], [1, -1])
        ring = SQUARE + [(16, 16), (16, 48), (48, 48), (48, 16), (16, 16), (0, 0)]
        self.assertEqual([winding_number(ring, 8, 32), winding_number(ring, 32, 32)], [1, 0])

    def test_one_grid_point(self):
        self.assertEqual(winding_number([(3, 3)], 3, 3), 0)
        self.assertEqual(winding_number([(3, 3), (3, 3)], 3, 3), 0)

    def test_huge_outlines(self):
        huge = [(HUGE * x - HUGE // 2, HUGE * y - HUGE // 2) for x, y in ((0, 0), (1, 0), (1, 1), (0, 1), (0, 0))]
        self.assertEqual(winding_number(huge, 32, 32), 1)
        self.assertEqual(winding_number(huge[::-1], 32, 32), -1)

    def test_the_outline_stays(self):
        given = list(SQUARE)
        winding_number(given, 32, 32)
        self.assertEqual(given, SQUARE)

    def test_counting_from_the_other_side(self):
        chance = Random(24)
        for _ in range(600):
            reach = chance.choice((3, 8, 10 ** 12))
            outline = any_outline(chance, chance.randint(1, 9), reach)
            x, y = chance.randint(-reach, reach), chance.randint(-reach, reach)
            self.assertEqual(winding_number(outline, x, y), from_the_right(outline, x, y))

    def test_an_inserted_grid_point(self):
        chance = Random(25)
        for _ in range(600):
            outline = any_outline(chance, chance.randint(1, 7), 6)
            at = chance.randint(1, len(outline) - 1)
            p, q = outline[at - 1:at + 1]
            inserted, x, y = (chance.randint(-7, 7), chance.randint(-7, 7)), chance.randint(-7, 7), chance.randint(-7, 7)
            grown = outline[:at] + [inserted] + outline[at:]
            self.assertEqual(
                winding_number(grown, x, y),
                winding_number(outline, x, y) + winding_number([p, inserted, q, p], x, y))

    def test_an_outline_that_is_divided_into_two(self):
        chance = Random(26)
        for _ in range(600):
            outline = any_outline(chance, chance.randint(3, 9), 6)
            first, second = sorted(chance.sample(range(len(outline) - 1), 2))
            cut = [(chance.randint(-6, 6), chance.randint(-6, 6)) for _ in range(chance.randint(0, 3))]
            one = outline[first:second + 1] + cut + outline[first:first + 1]
            other = outline[:first + 1] + cut[::-1] + outline[second:]
            x, y = chance.randint(-7, 7), chance.randint(-7, 7)
            self.assertEqual(
                winding_number(outline, x, y), winding_number(one, x, y) + winding_number(other, x, y))


class LinesTest(unittest.TestCase):
    def test_lines_in_order(self):
        wanted = [((0, 0), (64, 0)), ((64, 0), (64, 64)), ((64, 64), (0, 64)), ((0, 64), (0, 0))]
        self.assertEqual(list(lines(SQUARE)), wanted)
        self.assertEqual(list(lines([(1, 2), (3, 4), (5, 6)])), [((1, 2), (3, 4)), ((3, 4), (5, 6))])
        self.assertEqual(list(lines([(1, 2), (1, 2)])), [((1, 2), (1, 2))])

    def test_one_grid_point_has_no_line(self):
        self.assertEqual(list(lines([(1, 2)])), [])

    def test_it_is_a_generator_of_pairs(self):
        self.assertTrue(inspect.isgeneratorfunction(lines))
        self.assertTrue(all(type(line) is tuple and len(line) == 2 for line in lines(SQUARE)))

    def test_the_outline_stays(self):
        given = list(SQUARE)
        list(lines(given))
        self.assertEqual(given, SQUARE)


class DoubleAreaTest(unittest.TestCase):
    def test_both_senses_of_rotation(self):
        self.assertEqual(double_area(SQUARE), 2 * 64 * 64)
        self.assertEqual(double_area(SQUARE[::-1]), -2 * 64 * 64)
        self.assertEqual(double_area([(1, 1), (4, 1), (1, 3), (1, 1)]), 6)
        self.assertEqual(double_area([(-1, -1), (-1, -3), (-4, -1), (-1, -1)]), -6)
        self.assertEqual(double_area(SQUARE + SQUARE[1:]), 4 * 64 * 64)

    def test_no_area(self):
        self.assertEqual(double_area([(7, 9)]), 0)
        self.assertEqual(double_area([(7, 9), (7, 9)]), 0)
        self.assertEqual(double_area([(7, 9), (8, -3), (7, 9)]), 0)

    def test_the_place_does_not_matter(self):
        for dx, dy in ((-1000, 3), (HUGE, -HUGE)):
            moved = [(x + dx, y + dy) for x, y in SQUARE]
            self.assertEqual(double_area(moved), 2 * 64 * 64)

    def test_no_limits(self):
        self.assertEqual(double_area([(0, 0), (HUGE, 0), (0, HUGE), (0, 0)]), HUGE * HUGE)


if __name__ == "__main__":
    unittest.main()
