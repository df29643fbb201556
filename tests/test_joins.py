"""Point 19: points that are joined to a path."""

import unittest
from fractions import Fraction
from random import Random

from fontwinding.errors import OutOfRange, TooGreat, TooMany
from fontwinding.joins import join_points
from tests.support import LIMIT, is_path, number, place, point, points, value

A, B, C, D = points((0, 0), (6, 0), (6, 6), (0, 12))
CURVE = ("curve", point(1, 2), point(3, 4))
SMOOTH = ("smooth", (1, 1))


def smooth(tension):
    return ("smooth", number(tension))


def expected_segment(corners, joins, k, cycle):
    """The segment of point 19 over fractions."""
    join = joins[k]
    if join == "line":
        return None
    if join[0] == "curve":
        return join[1:]
    many = len(corners)
    a, b = place(corners[k]), place(corners[(k + 1) % many])
    g = 1 / (3 * value(join[1]))
    u = v = (b[0] - a[0], b[1] - a[1])
    if (cycle or k > 0) and joins[k - 1][0] == "smooth":
        before = place(corners[k - 1])
        u = ((b[0] - before[0]) / 2, (b[1] - before[1]) / 2)
    if (cycle or k + 1 < len(joins)) and joins[(k + 1) % len(joins)][0] == "smooth":
        after = place(corners[(k + 2) % many])
        v = ((after[0] - a[0]) / 2, (after[1] - a[1]) / 2)
    return (point(a[0] + g * u[0], a[1] + g * u[1]), point(b[0] - g * v[0], b[1] - g * v[1]))


class JoinPointsTest(unittest.TestCase):
    def test_lines(self):
        self.assertEqual(join_points([A, B, C], ["line", "line"]), ((A, B, C), (None, None), False))
        self.assertEqual(join_points([A, B], ["line", "line"], cycle=True), ((A, B), (None, None), True))

    def test_curves(self):
        self.assertEqual(join_points([A, B], [CURVE]), ((A, B), ((point(1, 2), point(3, 4)),), False))
        self.assertEqual(
            join_points([A, B], [CURVE, "line"], cycle=True), ((A, B), ((point(1, 2), point(3, 4)), None), True))

    def test_the_cycle_is_passed_by_keyword_and_false_without(self):
        self.assertIs(join_points([A], [])[2], False)
        with self.assertRaises(TypeError):
            join_points([A], ["line"], True)

    def test_one_point(self):
        self.assertEqual(join_points([C], []), ((C,), (), False))
        self.assertEqual(join_points([C], ["line"], cycle=True), ((C,), (None,), True))
        self.assertEqual(join_points([C], [SMOOTH], cycle=True), ((C,), ((C, C),), True))
        self.assertEqual(join_points([C], [CURVE], cycle=True), ((C,), (CURVE[1:],), True))

    def test_one_smooth_join(self):
        self.assertEqual(join_points([A, B], [SMOOTH])[1], (tuple(points((2, 0), (4, 0))),))
        self.assertEqual(join_points([A, B], [smooth(2)])[1], (tuple(points((1, 0), (5, 0))),))

    def test_smooth_joins_beside_each_other(self):
        told = join_points([A, B, C, D], [SMOOTH, SMOOTH, SMOOTH])
        self.assertEqual(told, ((A, B, C, D), (
            tuple(points((2, 0), (5, -1))),
            tuple(points((7, 1), (7, 4))),
            tuple(points((5, 8), (2, 10)))), False))

    def test_a_smooth_join_beside_others(self):
        for other in ("line", CURVE):
            told = join_points([A, B, C, D], [other, SMOOTH, other])
            self.assertEqual(told[1][1], tuple(points((6, 2), (6, 4))))
            told = join_points([A, B, C, D], [SMOOTH, SMOOTH, other])
            self.assertEqual(told[1][0], tuple(points((2, 0), (5, -1))))
            self.assertEqual(told[1][1], tuple(points((7, 1), (6, 4))))
            told = join_points([A, B, C, D], [other, SMOOTH, SMOOTH])
            self.assertEqual(told[1][1], tuple(points((6, 2), (7, 4))))

    def test_the_first_and_the_last_join_of_a_cycle_are_neighbors(self):
        told = join_points([A, B, C, D], [SMOOTH, "line", "line", SMOOTH], cycle=True)
        self.assertEqual(told[1], (tuple(points((1, -2), (4, 0))), None, None, tuple(points((0, 8), (-1, 2)))))
        told = join_points([A, B, C, D], [SMOOTH, "line", "line", "line"], cycle=True)
        self.assertEqual(told[1][0], tuple(points((2, 0), (4, 0))))

    def test_a_cycle_of_two_points(self):
        told = join_points([A, B], [SMOOTH, SMOOTH], cycle=True)
        self.assertEqual(told[1], ((A, B), (B, A)))
        told = join_points([A, B], [SMOOTH, "line"], cycle=True)
        self.assertEqual(told[1], (tuple(points((2, 0), (4, 0))), None))

    def test_each_tension_belongs_to_its_own_join(self):
        told = join_points([A, B, C], [smooth(2), smooth(Fraction(4, 3))])
        self.assertEqual(told[1], (
            (point(1, 0), point(Fraction(11, 2), Fraction(-1, 2))),
            (point(Fraction(27, 4), Fraction(3, 4)), point(6, Fraction(9, 2)))))

    def test_any_joins(self):
        chance = Random(19)
        for _ in range(300):
            many = chance.randint(1, 7)
            cycle = chance.choice((False, True))
            corners = points(*((chance.randint(-9, 9), chance.randint(-9, 9)) for _ in range(many)))
            choices = ("line", CURVE, SMOOTH, SMOOTH, smooth(Fraction(3, 4)), smooth(Fraction(7, 3)))
            joins = [chance.choice(choices) for _ in range(many - 1 + cycle)]
            given = (list(corners), list(joins))
            told = join_points(corners, joins, cycle=cycle)
            self.assertEqual((corners, joins), given)
            self.assertTrue(is_path(told))
            segments = tuple(expected_segment(corners, joins, k, cycle) for k in range(len(joins)))
            self.assertEqual(told, (tuple(corners), segments, cycle))

    def test_24_points(self):
        corners = points(*((k, k % 3) for k in range(24)))
        for cycle in (False, True):
            told = join_points(corners, [SMOOTH] * (23 + cycle), cycle=cycle)
            self.assertEqual(told[0], tuple(corners))
            self.assertTrue(is_path(told))


class ErrorsTest(unittest.TestCase):
    def test_too_many(self):
        corners = points(*((k, k % 3) for k in range(25)))
        for cycle in (False, True):
            with self.assertRaises(TooMany):
                join_points(corners, ["line"] * (24 + cycle), cycle=cycle)

    def test_the_least_tension(self):
        self.assertEqual(
            join_points([A, B], [smooth(Fraction(3, 4))])[1],
            ((point(Fraction(8, 3), 0), point(Fraction(10, 3), 0)),))
        below = Fraction(3 * LIMIT // 4 - 1, LIMIT)
        for tension in (below, Fraction(1, 2), 0, -1, -LIMIT):
            with self.assertRaises(OutOfRange):
                join_points([A, B], [smooth(tension)])
            with self.assertRaises(OutOfRange):
                join_points([A, B], ["line", smooth(tension)], cycle=True)

    def test_great_tensions(self):
        self.assertEqual(join_points([A, A], [smooth(LIMIT // 3)])[1], ((A, A),))
        self.assertEqual(join_points([A, B], [smooth(10 ** 9)])[1], (
            (point(Fraction(2, 10 ** 9), 0), point(6 - Fraction(2, 10 ** 9), 0)),))
        for tension in (LIMIT // 3 + 1, LIMIT):
            with self.assertRaises(TooGreat):
                join_points([A, A], [smooth(tension)])

    def test_too_many_before_out_of_range(self):
        corners = points(*((k, 0) for k in range(25)))
        with self.assertRaises(TooMany):
            join_points(corners, [smooth(0)] * 24)

    def test_out_of_range_before_too_great(self):
        far = [point(-LIMIT, 0), point(LIMIT, 0), A]
        with self.assertRaises(TooGreat):
            join_points(far, [SMOOTH, SMOOTH])
        with self.assertRaises(OutOfRange):
            join_points(far, [SMOOTH, smooth(Fraction(1, 2))])
        with self.assertRaises(OutOfRange):
            join_points([A, B, C], [smooth(LIMIT), smooth(Fraction(1, 2))])

    def test_too_great_in_between(self):
        low, high = point(-LIMIT, 0), point(LIMIT, 0)
        # One half of the difference would be within the limits, the difference is not.
        with self.assertRaises(TooGreat):
            join_points([low, A, high], [SMOOTH, SMOOTH])
        self.assertEqual(join_points([low, A, high], ["line", "line"])[1], (None, None))
        # Without a smooth neighbor the difference of the ends is taken.
        third = LIMIT // 3
        self.assertEqual(
            join_points([A, point(LIMIT - 1, 0)], [SMOOTH])[1], (tuple(points((third, 0), (2 * third, 0))),))
        # A control itself.
        with self.assertRaises(TooGreat):
            join_points([point(0, 1 - LIMIT), A, point(0, LIMIT), point(0, LIMIT)], [SMOOTH, SMOOTH, SMOOTH])


if __name__ == "__main__":
    unittest.main()
