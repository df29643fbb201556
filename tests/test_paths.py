"""Points 14 and 18: paths, their reverse and their transforms."""

import unittest

from fontwinding.errors import TooGreat, TooMany
from fontwinding.paths import length, polygon, reverse, transform_path
from fontwinding.transforms import IDENTITY, apply, scale_by, shift_by, turn_by
from tests.support import LIMIT, is_path, point, points

A, B, C, D = points((0, 0), (4, 0), (4, 4), (0, 4))
C1, C2, C3, C4 = points((1, 1), (2, 1), (3, 5), (2, 6))
OPEN = ((A, B, C), ((C1, C2), None), False)
CYCLE = ((A, B, C), ((C1, C2), None, (C3, C4)), True)
ALL = [OPEN, CYCLE, polygon([A], cycle=False), polygon([A], cycle=True), ((A,), ((C1, C2),), True),
       polygon([A, B], cycle=False), polygon([A, B], cycle=True), polygon([A, B, C, D], cycle=True),
       ((A, B), ((C1, C2), (C3, C4)), True), ((A, A), ((A, A),), False)]


class PolygonTest(unittest.TestCase):
    def test_open(self):
        self.assertEqual(polygon([A, B, C], cycle=False), ((A, B, C), (None, None), False))
        self.assertEqual(polygon([A], cycle=False), ((A,), (), False))

    def test_cycle(self):
        self.assertEqual(polygon([A, B, C], cycle=True), ((A, B, C), (None, None, None), True))
        self.assertEqual(polygon([A], cycle=True), ((A,), (None,), True))

    def test_24_points_and_25(self):
        many = points(*((k, k * k) for k in range(25)))
        for cycle in (False, True):
            path = polygon(many[:24], cycle=cycle)
            self.assertEqual(path[0], tuple(many[:24]))
            self.assertEqual(length(path), 23 + cycle)
            self.assertTrue(is_path(path))
            with self.assertRaises(TooMany):
                polygon(many, cycle=cycle)
            with self.assertRaises(TooMany):
                polygon(many * 3, cycle=cycle)

    def test_the_cycle_is_passed_by_keyword(self):
        with self.assertRaises(TypeError):
            polygon([A], True)
        with self.assertRaises(TypeError):
            polygon([A])

    def test_the_list_stays_as_it_is(self):
        given = [A, B, C]
        path = polygon(given, cycle=True)
        self.assertEqual(given, [A, B, C])
        given.append(D)
        self.assertEqual(path[0], (A, B, C))


class LengthTest(unittest.TestCase):
    def test_length(self):
        self.assertEqual(length(OPEN), 2)
        self.assertEqual(length(CYCLE), 3)
        self.assertEqual(length(polygon([A], cycle=False)), 0)
        self.assertEqual(length(polygon([A], cycle=True)), 1)


class ReverseTest(unittest.TestCase):
    def test_open(self):
        self.assertEqual(reverse(OPEN), ((C, B, A), (None, (C2, C1)), False))

    def test_cycle_keeps_its_first_knot(self):
        self.assertEqual(reverse(CYCLE), ((A, C, B), ((C4, C3), None, (C2, C1)), True))
        self.assertEqual(reverse(polygon([A, B, C, D], cycle=True))[0], (A, D, C, B))
        self.assertEqual(reverse(((A, B), ((C1, C2), (C3, C4)), True)), ((A, B), ((C4, C3), (C2, C1)), True))

    def test_one_knot(self):
        self.assertEqual(reverse(((A,), (), False)), ((A,), (), False))
        self.assertEqual(reverse(((A,), (None,), True)), ((A,), (None,), True))
        self.assertEqual(reverse(((A,), ((C1, C2),), True)), ((A,), ((C2, C1),), True))

    def test_twice(self):
        for path in ALL:
            self.assertTrue(is_path(reverse(path)))
            self.assertEqual(reverse(reverse(path)), path)


class TransformPathTest(unittest.TestCase):
    def test_knots_and_controls(self):
        move = shift_by(point(1, 10))
        self.assertEqual(
            transform_path(CYCLE, move),
            (tuple(points((1, 10), (5, 10), (5, 14))),
             (tuple(points((2, 11), (3, 11))), None, tuple(points((4, 15), (3, 16)))), True))

    def test_all_paths(self):
        for path in ALL:
            self.assertEqual(transform_path(path, IDENTITY), path)
            turned = transform_path(path, turn_by(1))
            self.assertTrue(is_path(turned))
            self.assertEqual(turned[0], tuple(apply(turn_by(1), knot) for knot in path[0]))
            self.assertEqual(turned[2], path[2])
            self.assertEqual(transform_path(turned, turn_by(3)), path)

    def test_too_great(self):
        double = scale_by((2, 1), (2, 1))
        great = point(LIMIT, 0)
        for path in (polygon([A, great], cycle=False), ((A, B), ((great, A),), False), ((A, B), ((A, great),), False)):
            with self.assertRaises(TooGreat):
                transform_path(path, double)
            self.assertEqual(transform_path(path, IDENTITY), path)


if __name__ == "__main__":
    unittest.main()
