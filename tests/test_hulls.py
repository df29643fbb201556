"""Point 27: corners of convex hulls."""

import unittest
from itertools import permutations
from random import Random

from fontwinding.hulls import corners

HUGE = 10 ** 40


def turn(a, b, c):
    return (b[0] - a[0]) * (c[1] - a[1]) - (b[1] - a[1]) * (c[0] - a[0])


def is_between(p, a, b):
    """True if `p` lies on the straight line from `a` to `b`, its ends included."""
    inner = (p[0] - a[0]) * (p[0] - b[0]) + (p[1] - a[1]) * (p[1] - b[1])
    return turn(a, b, p) == 0 and inner <= 0


def is_in(p, others):
    """True if the convex hull of the other grid points contains `p`, tried by all lines and triangles."""
    if any(is_between(p, a, b) for a in others for b in others):
        return True
    for a in others:
        for b in others:
            for c in others:
                turns = (turn(a, b, p), turn(b, c, p), turn(c, a, p))
                if min(turns) > 0:
                    return True
    return False


def by_definition(points):
    """The set of the corners: each grid point that the hull of the others does not contain."""
    alone = set(points)
    return {p for p in alone if not is_in(p, alone - {p})}


class CornersTest(unittest.TestCase):
    def test_example_of_the_interface(self):
        self.assertEqual(corners([(4, 4), (0, 0), (2, 2), (4, 0), (2, 0)]), [(0, 0), (4, 0), (4, 4)])

    def test_one_and_equal_ones(self):
        self.assertEqual(corners([(3, -2)]), [(3, -2)])
        self.assertEqual(corners([(3, -2)] * 4), [(3, -2)])
        self.assertEqual(corners([(3, 3), (1, 1), (3, 3), (1, 1)]), [(1, 1), (3, 3)])
        self.assertEqual(corners([(0, 0), (4, 0), (0, 0), (4, 4), (4, 0), (4, 4)]), [(0, 0), (4, 0), (4, 4)])

    def test_two(self):
        for a, b in (((0, 0), (5, 1)), ((5, 0), (0, 1)), ((0, 0), (7, 0)), ((2, -3), (2, 9))):
            self.assertEqual(corners([a, b]), [a, b])
            self.assertEqual(corners([b, a]), [a, b])

    def test_three(self):
        for given in permutations([(0, 0), (4, 1), (1, 4)]):
            self.assertEqual(corners(list(given)), [(0, 0), (4, 1), (1, 4)])

    def test_several_lowest(self):
        for given in permutations([(-3, 0), (3, 0), (0, 0), (0, 5)]):
            self.assertEqual(corners(list(given)), [(-3, 0), (3, 0), (0, 5)])
        for given in permutations([(-3, 5), (3, 5), (0, 5), (0, 0)]):
            self.assertEqual(corners(list(given)), [(0, 0), (3, 5), (-3, 5)])

    def test_on_one_line(self):
        for dx, dy in ((1, 0), (0, 1), (1, 1), (-1, 1), (3, 7), (-HUGE, 1)):
            row = [(5 + k * dx, -4 + k * dy) for k in range(6)]
            for given in (row, row[::-1], row[3:] + row[:3], row + row):
                self.assertEqual(corners(given), [row[0], row[-1]])

    def test_points_on_borders_are_no_corners(self):
        square = [(x, y) for x in range(5) for y in range(5)]
        self.assertEqual(corners(square), [(0, 0), (4, 0), (4, 4), (0, 4)])
        diamond = [(x, y) for x in range(-4, 5) for y in range(-4, 5) if abs(x) + abs(y) <= 4]
        self.assertEqual(corners(diamond), [(0, -4), (4, 0), (0, 4), (-4, 0)])

    def test_nearly_on_one_line(self):
        self.assertEqual(corners([(0, 0), (HUGE, HUGE), (2 * HUGE, 2 * HUGE + 1)]),
                         [(0, 0), (HUGE, HUGE), (2 * HUGE, 2 * HUGE + 1)])
        self.assertEqual(corners([(0, 0), (HUGE, HUGE), (2 * HUGE, 2 * HUGE)]), [(0, 0), (2 * HUGE, 2 * HUGE)])

    def test_any_points(self):
        chance = Random(27)
        for _ in range(400):
            reach = chance.choice((1, 2, 4, 50))
            given = [(chance.randint(-reach, reach), chance.randint(-reach, reach))
                     for _ in range(chance.randint(1, 9))]
            kept = list(given)
            told = corners(given)
            self.assertEqual(given, kept)
            self.assertIs(type(told), list)
            self.assertEqual(len(told), len(set(told)))
            self.assertEqual(set(told), by_definition(given))
            self.assertEqual(told[0], min(told, key=lambda p: (p[1], p[0])))
            if len(told) > 2:
                around = told + told[:2]
                self.assertTrue(all(turn(a, b, c) > 0 for a, b, c in zip(around, around[1:], around[2:])))
            shuffled = chance.sample(given, len(given)) + given[:1]
            self.assertEqual(corners(shuffled), told)

    def test_a_list_that_is_returned_is_new(self):
        given = [(0, 0), (4, 0), (4, 4)]
        told = corners(given)
        told.append((9, 9))
        self.assertEqual(given, [(0, 0), (4, 0), (4, 4)])
        one = [(1, 1)]
        corners(one).clear()
        self.assertEqual(one, [(1, 1)])


if __name__ == "__main__":
    unittest.main()
