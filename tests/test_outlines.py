"""Points 5, 20, 21 and 22: grid points, curves that are laid out, and outlines of paths."""

import unittest
from fractions import Fraction
from math import floor
from random import Random

from fontwinding.joins import join_points
from fontwinding.outlines import grid_point, lay_out, outline
from fontwinding.paths import polygon, reverse
from tests.support import LIMIT, number, point, points

A, B, C = points((0, 0), (4, 0), (4, 4))
C1, C2 = points((1, 3), (3, -3))
CURVE = ("curve", C1, C2)
SMOOTH = ("smooth", (1, 1))


def laid_out(a, b, c, d, depth):
    """What point 21 says, with fractions and a list of what is still to be laid out."""
    added, waiting = [], [((a, b, c, d), depth)]
    while waiting:
        four, depth = waiting.pop()
        bends = [p[k] - 2 * q[k] + r[k] for p, q, r in (four[:3], four[1:]) for k in (0, 1)]
        if depth == 5 or all(abs(bend) <= 16 for bend in bends):
            added.append(four[3])
            continue
        e, f, g = (half(p, q) for p, q in zip(four, four[1:]))
        h, k = half(e, f), half(f, g)
        m = half(h, k)
        waiting.append(((m, k, g, four[3]), depth + 1))
        waiting.append(((four[0], e, h, m), depth + 1))
    return added


def half(p, q):
    return tuple(floor(Fraction(v + w, 2)) for v, w in zip(p, q))


def is_outline(told):
    return type(told) is list and told and all(
        type(p) is tuple and len(p) == 2 and type(p[0]) is int and type(p[1]) is int for p in told)


def any_path(chance):
    many = chance.randint(1, 6)
    cycle = chance.choice((False, True))
    corners = points(*((Fraction(chance.randint(-400, 400), 9), chance.randint(-30, 30)) for _ in range(many)))
    joins = [chance.choice(("line", CURVE, SMOOTH)) for _ in range(many - 1 + cycle)]
    return join_points(corners, joins, cycle=cycle)


class GridPointTest(unittest.TestCase):
    def test_whole_and_broken_parts(self):
        self.assertEqual(grid_point(point(0, 0)), (0, 0))
        self.assertEqual(grid_point(point(3, -2)), (192, -128))
        self.assertEqual(grid_point(point(Fraction(1, 64), Fraction(-1, 64))), (1, -1))
        self.assertEqual(grid_point(point(Fraction(1, 3), Fraction(-1, 3))), (21, -21))

    def test_halves_of_a_64th_go_upwards(self):
        for n in range(-9, 10):
            half_way = number(Fraction(2 * n + 1, 128))
            self.assertEqual(grid_point((half_way, (0, 1))), (n + 1, 0))
            self.assertEqual(grid_point(((0, 1), half_way)), (0, n + 1))
        below = Fraction(1, 128) - Fraction(1, 10 ** 9)
        self.assertEqual(grid_point(point(below, -Fraction(1, 128) - Fraction(1, 10 ** 9))), (0, -1))

    def test_parts_at_the_limits(self):
        self.assertEqual(grid_point(point(LIMIT, -LIMIT)), (64 * LIMIT, -64 * LIMIT))
        self.assertEqual(grid_point(point(Fraction(1, LIMIT), Fraction(-1, LIMIT))), (0, 0))
        self.assertEqual(grid_point(point(Fraction(LIMIT, LIMIT - 1), Fraction(-LIMIT, LIMIT - 1))), (64, -64))
        self.assertEqual(
            grid_point(((LIMIT, 3), (-LIMIT, 3))), ((64 * LIMIT - 1) // 3, -(64 * LIMIT - 1) // 3))

    def test_kinds(self):
        told = grid_point(A)
        self.assertIs(type(told), tuple)
        self.assertTrue(is_outline([told]))


class LayOutTest(unittest.TestCase):
    def test_second_differences_of_16_are_straight(self):
        for bend in (16, -16):
            for first, second in ((bend, 0), (0, bend), (bend, bend), (bend, -bend)):
                last = 3 * first + second - first
                self.assertEqual(lay_out((0, 0), (0, 0), (first, 0), (last, 0), 0), [(last, 0)])
                self.assertEqual(lay_out((0, 0), (0, 0), (0, first), (0, last), 0), [(0, last)])

    def test_second_differences_of_17_are_not(self):
        for depth in range(5):
            self.assertEqual(lay_out((0, 0), (0, 0), (17, 0), (34, 0), depth), [(10, 0), (34, 0)])
            self.assertEqual(lay_out((0, 0), (0, 0), (0, 17), (0, 34), depth), [(0, 10), (0, 34)])
            self.assertEqual(lay_out((0, 0), (0, 0), (-17, 0), (-34, 0), depth), [(-12, 0), (-34, 0)])
            self.assertEqual(lay_out((0, 0), (0, 0), (0, -17), (0, -34), depth), [(0, -12), (0, -34)])
            # Only the second one of the two differences is too great.
            self.assertEqual(lay_out((0, 0), (0, 0), (0, 0), (17, 0), depth), [(2, 0), (17, 0)])
            self.assertEqual(lay_out((0, 0), (0, 0), (0, 0), (0, -17), depth), [(0, -3), (0, -17)])

    def test_depth_5_adds_the_end_alone(self):
        self.assertEqual(lay_out((0, 0), (900, 7), (-900, 8), (1, 1), 5), [(1, 1)])
        self.assertEqual(lay_out((0, 0), (0, 0), (17, 0), (34, 0), 5), [(34, 0)])

    def test_each_depth_halves_at_most_once_more(self):
        far = ((0, 0), (10 ** 30, 0), (-10 ** 30, 10 ** 30), (7, 7))
        for depth in range(6):
            told = lay_out(*far, depth)
            self.assertEqual(len(told), 2 ** (5 - depth))
            self.assertEqual(told[-1], (7, 7))
            self.assertEqual(told, laid_out(*far, depth))

    def test_middles_are_rounded_down(self):
        told = lay_out((-1, -1), (-20, 0), (-1, -20), (-2, -1), 4)
        # e (-11, -1), f (-11, -10), g (-2, -11), h (-11, -6), k (-7, -11), m (-9, -9).
        self.assertEqual(told, [(-9, -9), (-2, -1)])

    def test_equal_neighbors_stay(self):
        self.assertEqual(lay_out((3, 3), (3, 3), (3, 3), (3, 3), 0), [(3, 3)])
        self.assertEqual(lay_out((0, 0), (17, 0), (-17, 0), (1, 0), 0), [(0, 0), (1, 0)])
        self.assertEqual(lay_out((1, 0), (-17, 0), (17, 0), (0, 0), 0), [(0, 0), (0, 0)])

    def test_any_curves(self):
        chance = Random(21)
        for _ in range(400):
            reach = chance.choice((20, 60, 400, 5000))
            four = [(chance.randint(-reach, reach), chance.randint(-reach, reach)) for _ in range(4)]
            depth = chance.randint(0, 5)
            told = lay_out(*four, depth)
            self.assertTrue(is_outline(told))
            self.assertEqual(told, laid_out(*four, depth))

    def test_a_list_that_is_returned_is_new(self):
        four = ((0, 0), (0, 0), (17, 0), (34, 0))
        lay_out(*four, 0).append((9, 9))
        self.assertEqual(lay_out(*four, 0), [(10, 0), (34, 0)])


class OutlineTest(unittest.TestCase):
    def test_example_of_the_interface(self):
        path = polygon([((0, 1), (0, 1)), ((1, 1), (0, 1)), ((1, 2), (1, 1))], cycle=True)
        self.assertEqual(outline(path), [(0, 0), (64, 0), (32, 64), (0, 0)])

    def test_lines(self):
        self.assertEqual(outline(polygon([A, B, C], cycle=False)), [(0, 0), (256, 0), (256, 256)])
        self.assertEqual(outline(polygon([A, B, C], cycle=True)), [(0, 0), (256, 0), (256, 256), (0, 0)])

    def test_one_knot(self):
        self.assertEqual(outline(polygon([B], cycle=False)), [(256, 0)])
        self.assertEqual(outline(polygon([B], cycle=True)), [(256, 0), (256, 0)])
        loop = join_points([A], [CURVE], cycle=True)
        told = outline(loop)
        self.assertEqual(told, [(0, 0)] + laid_out((0, 0), (64, 192), (192, -192), (0, 0), 0))
        self.assertEqual(told[0], told[-1])

    def test_lines_and_curves_beside_each_other(self):
        curve = laid_out((256, 0), (64, 192), (192, -192), (256, 256), 0)
        self.assertGreater(len(curve), 3)
        told = outline(join_points([A, B, C], ["line", CURVE]))
        self.assertEqual(told, [(0, 0), (256, 0)] + curve)
        told = outline(join_points([A, B, C], ["line", CURVE, "line"], cycle=True))
        self.assertEqual(told, [(0, 0), (256, 0)] + curve + [(0, 0)])
        back = laid_out((256, 256), (64, 192), (192, -192), (0, 0), 0)
        told = outline(join_points([A, B, C], ["line", "line", CURVE], cycle=True))
        self.assertEqual(told, [(0, 0), (256, 0), (256, 256)] + back)

    def test_a_curve_is_laid_out_from_its_grid_points_at_depth_0(self):
        knots = points((Fraction(1, 128), 0), (Fraction(3, 128), 9))
        controls = points((Fraction(-1, 128), 3), (5, Fraction(-3, 128)))
        told = outline(join_points(knots, [("curve", *controls)]))
        self.assertEqual(told, [(1, 0)] + laid_out((1, 0), (0, 192), (320, -1), (2, 576), 0))

    def test_a_curve_is_halved_five_times_at_most(self):
        far = join_points([A, B], [("curve", *points((10 ** 15, 3), (-10 ** 15, 10 ** 15)))])
        told = outline(far)
        self.assertEqual(len(told), 1 + 2 ** 5)
        self.assertEqual(told[1:], lay_out((0, 0), (64 * 10 ** 15, 192), (-64 * 10 ** 15, 64 * 10 ** 15), (256, 0), 0))

    def test_equal_neighbors_stay(self):
        near = points((0, 0), (Fraction(1, 1000), 0), (0, Fraction(1, 1000)))
        self.assertEqual(outline(polygon(near, cycle=True)), [(0, 0)] * 4)
        self.assertEqual(outline(join_points(near, [SMOOTH, SMOOTH])), [(0, 0)] * 3)

    def test_great_paths(self):
        far = polygon([point(LIMIT, -LIMIT), A], cycle=True)
        self.assertEqual(outline(far), [(64 * LIMIT, -64 * LIMIT), (0, 0), (64 * LIMIT, -64 * LIMIT)])

    def test_any_paths(self):
        chance = Random(22)
        for _ in range(100):
            path = any_path(chance)
            told = outline(path)
            self.assertTrue(is_outline(told))
            self.assertEqual(told[0], grid_point(path[0][0]))
            self.assertEqual(told[-1], told[0] if path[2] else grid_point(path[0][-1]))
            ends = path[0][1:] + path[0][:1] if path[2] else path[0][1:]
            self.assertTrue(all(grid_point(end) in told for end in ends))

    def test_the_path_stays_and_the_list_is_new(self):
        path = join_points([A, B, C], ["line", CURVE, SMOOTH], cycle=True)
        again = join_points([A, B, C], ["line", CURVE, SMOOTH], cycle=True)
        told = outline(path)
        kept = list(told)
        told.clear()
        self.assertEqual(path, again)
        self.assertEqual(outline(path), kept)


class ReverseTest(unittest.TestCase):
    def test_open_paths_and_cycles(self):
        for joins in (["line", CURVE], ["line", CURVE, SMOOTH]):
            path = join_points([A, B, C], joins, cycle=len(joins) == 3)
            self.assertEqual(outline(reverse(path)), outline(path)[::-1])
            self.assertNotEqual(outline(reverse(path)), outline(path))

    def test_any_paths(self):
        chance = Random(23)
        for _ in range(150):
            path = any_path(chance)
            self.assertEqual(outline(reverse(path)), outline(path)[::-1])


if __name__ == "__main__":
    unittest.main()
