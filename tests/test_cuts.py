"""Points 15, 16 and 17: cut segments, points at times and subpaths."""

import math
import unittest
from fractions import Fraction
from random import Random

from fontwinding.cuts import between, cut_segment, point_at, subpath
from fontwinding.errors import TooGreat, TooMany
from fontwinding.paths import length, polygon, reverse
from tests.support import LIMIT, is_path, is_point, number, place, point, points

A, B, C, D = points((0, 0), (4, 0), (4, 4), (0, 4))
C1, C2, C3, C4 = points((1, 3), (3, -3), (6, 5), (-2, 6))
OPEN = ((A, B, C), ((C1, C2), None), False)
CYCLE = ((A, B, C), ((C1, C2), None, (C3, C4)), True)
SINGLE = polygon([B], cycle=False)
RING = ((B,), ((C1, C2),), True)
FRACTIONS = [Fraction(n, 3) for n in range(-4, 8)] + [Fraction(1, 2), Fraction(5), Fraction(-5)]


def bezier(a, segment, b, t):
    """The point of a segment at a fraction, over fractions, by the formula of Bernstein."""
    if segment is None:
        weights, corners = (1 - t, t), (a, b)
    else:
        weights = ((1 - t) ** 3, 3 * (1 - t) ** 2 * t, 3 * (1 - t) * t ** 2, t ** 3)
        corners = (a, segment[0], segment[1], b)
    xs, ys = zip(*map(place, corners))
    return point(sum(w * x for w, x in zip(weights, xs)), sum(w * y for w, y in zip(weights, ys)))


def on_path(path, t):
    """The point of a path at a time of any size, over fractions."""
    knots, segments, is_cycle = path
    if is_cycle:
        t = t % len(segments)
    else:
        t = max(Fraction(0), min(Fraction(len(segments)), t))
    n = math.floor(t)
    if t == n:
        return knots[n]
    return bezier(knots[n], segments[n], knots[(n + 1) % len(knots)], t - n)


class BetweenTest(unittest.TestCase):
    def test_between(self):
        p, q = point(1, -2), point(4, 6)
        self.assertEqual(between(p, q, (0, 1)), p)
        self.assertEqual(between(p, q, (1, 1)), q)
        self.assertEqual(between(p, q, (1, 3)), point(2, Fraction(2, 3)))
        self.assertEqual(between(p, q, (-1, 1)), point(-2, -10))
        self.assertEqual(between(p, q, (2, 1)), point(7, 14))
        self.assertEqual(between(p, p, (LIMIT, 1)), p)

    def test_too_great(self):
        # The difference, then the product, then the sum; the result alone would often fit.
        for p, q, fraction in ((point(-LIMIT, 0), point(LIMIT, 0), (1, 2)), (point(0, -LIMIT), point(0, LIMIT), (1, 2)),
                               (point(-LIMIT, 0), point(-LIMIT + 2, 0), (LIMIT, 1)),
                               (point(0, 1), point(0, LIMIT), (2, 1))):
            with self.assertRaises(TooGreat):
                between(p, q, fraction)
        self.assertEqual(between(point(-LIMIT, 0), point(-LIMIT + 1, 0), (LIMIT, 1)), point(0, 0))
        # (1 - f) p + f q would exceed the limits here.
        self.assertEqual(between(point(LIMIT, 0), point(LIMIT, 0), (5, 1)), point(LIMIT, 0))


class CutSegmentTest(unittest.TestCase):
    def test_line(self):
        self.assertEqual(cut_segment(A, None, C, (1, 4)), (None, point(1, 1), None))
        self.assertEqual(cut_segment(A, None, C, (0, 1)), (None, A, None))
        self.assertEqual(cut_segment(A, None, C, (1, 1)), (None, C, None))
        self.assertEqual(cut_segment(A, None, C, (-1, 2)), (None, point(-2, -2), None))
        self.assertEqual(cut_segment(A, None, C, (3, 1)), (None, point(12, 12), None))

    def test_curve(self):
        a, c1, c2, b = points((0, 0), (0, 8), (8, 8), (8, 0))
        self.assertEqual(
            cut_segment(a, (c1, c2), b, (1, 2)),
            (tuple(points((0, 4), (2, 6))), point(4, 6), tuple(points((6, 6), (8, 4)))))
        self.assertEqual(
            cut_segment(a, (c1, c2), b, (1, 4)),
            (tuple(points((0, 2), (Fraction(1, 2), Fraction(7, 2)))), point(Fraction(5, 4), Fraction(9, 2)),
             tuple(points((Fraction(7, 2), Fraction(15, 2)), (8, 6)))))

    def test_curve_at_0_and_1(self):
        self.assertEqual(cut_segment(A, (C1, C2), B, (0, 1)), ((A, A), A, (C1, C2)))
        self.assertEqual(cut_segment(A, (C1, C2), B, (1, 1)), ((C1, C2), B, (B, B)))

    def test_both_parts_lie_on_the_curve(self):
        for f in FRACTIONS:
            first, cut, second = cut_segment(A, (C1, C2), B, number(f))
            self.assertEqual(cut, bezier(A, (C1, C2), B, f))
            for t in FRACTIONS:
                self.assertEqual(bezier(A, first, cut, t), bezier(A, (C1, C2), B, t * f))
                self.assertEqual(bezier(cut, second, B, t), bezier(A, (C1, C2), B, f + t * (1 - f)))

    def test_too_great(self):
        a, b = point(0, 0), point(LIMIT, 0)
        with self.assertRaises(TooGreat):
            cut_segment(a, None, b, (2, 1))
        with self.assertRaises(TooGreat):
            cut_segment(a, (b, point(-LIMIT, 0)), a, (1, 2))
        self.assertEqual(cut_segment(a, (b, b), a, (1, 1)), ((b, b), a, (a, a)))


class PointAtTest(unittest.TestCase):
    def test_open_path(self):
        wanted = {(-5, 1): A, (-1, LIMIT): A, (0, 1): A, (1, 1): B, (2, 1): C, (3, 1): C,
                  (LIMIT, 1): C, (-LIMIT, 1): A, (3, 2): point(4, 2), (7, 4): point(4, 3)}
        for time, told in wanted.items():
            self.assertEqual(point_at(OPEN, time), told)
        self.assertEqual(point_at(OPEN, (1, 2)), point(2, 0))

    def test_cycle(self):
        for whole in range(-9, 10):
            self.assertEqual(point_at(CYCLE, (whole, 1)), (A, B, C)[whole % 3])
        self.assertEqual(point_at(CYCLE, (-3, 2)), point(4, 2))
        self.assertEqual(point_at(CYCLE, (3, 2)), point(4, 2))
        self.assertEqual(point_at(CYCLE, (15, 2)), point(4, 2))
        self.assertEqual(point_at(CYCLE, (LIMIT, 1)), B)
        self.assertEqual(point_at(CYCLE, (-LIMIT, 1)), C)
        self.assertEqual(point_at(CYCLE, (LIMIT - 1, 2)), point(4, 2))
        self.assertEqual(point_at(CYCLE, (1 - LIMIT, 2)), point(4, 2))
        self.assertEqual(point_at(CYCLE, (-1, 2)), bezier(C, (C3, C4), A, Fraction(1, 2)))

    def test_all_times(self):
        for path in (OPEN, CYCLE, SINGLE, RING, polygon([A, B, C, D], cycle=True), polygon([A, B], cycle=False)):
            for n in range(-50, 51):
                time = Fraction(n, 7)
                told = point_at(path, number(time))
                self.assertEqual(told, on_path(path, time))
                self.assertTrue(is_point(told))

    def test_one_knot(self):
        for time in ((-7, 3), (0, 1), (1, 2), (1, 1), (LIMIT, 1)):
            self.assertEqual(point_at(SINGLE, time), B)
        for time in ((0, 1), (1, 1), (-4, 1), (LIMIT, 1)):
            self.assertEqual(point_at(RING, time), B)
        self.assertEqual(point_at(RING, (1, 3)), bezier(B, (C1, C2), B, Fraction(1, 3)))
        self.assertEqual(point_at(RING, (-8, 3)), bezier(B, (C1, C2), B, Fraction(1, 3)))

    def test_the_remainder_is_one_operation_with_limits(self):
        ring = polygon([A, A, A], cycle=True)
        with self.assertRaises(TooGreat):
            point_at(ring, (-1, LIMIT))
        self.assertEqual(point_at(ring, (1, LIMIT)), A)
        # The quotient and its product with the length have no limits of their own.
        self.assertEqual(point_at(ring, (LIMIT - 1, LIMIT // 2 - 1)), A)
        self.assertEqual(point_at(ring, (-LIMIT, 7)), A)

    def test_nothing_is_calculated_at_a_whole_time(self):
        far = polygon([point(-LIMIT, -LIMIT), point(LIMIT, LIMIT)], cycle=True)
        self.assertEqual(point_at(far, (LIMIT - 1, 1)), point(LIMIT, LIMIT))
        self.assertEqual(point_at(far, (-LIMIT, 1)), point(-LIMIT, -LIMIT))
        with self.assertRaises(TooGreat):
            point_at(far, (1, 2))


class SubpathTest(unittest.TestCase):
    def check(self, path, start, end):
        told = subpath(path, number(start), number(end))
        self.assertTrue(is_path(told))
        self.assertIs(told[2], False)
        if not path[2]:
            start = max(Fraction(0), min(Fraction(length(path)), start))
            end = max(Fraction(0), min(Fraction(length(path)), end))
        if start > end:
            told, start, end = reverse(told), end, start
        if start == end:
            self.assertEqual(told, ((on_path(path, start),), (), False))
            return
        marks = [start, *range(math.floor(start) + 1, math.ceil(end)), end]
        self.assertEqual(told[0], tuple(on_path(path, Fraction(mark)) for mark in marks))
        for at, segment in enumerate(told[1]):
            low, high = marks[at], marks[at + 1]
            self.assertEqual(segment is None, path[1][math.floor(low) % len(path[1])] is None)
            for t in (Fraction(1, 3), Fraction(1, 2), Fraction(4, 5)):
                between_knots = bezier(told[0][at], segment, told[0][at + 1], t)
                self.assertEqual(between_knots, on_path(path, low + t * (high - low)))

    def test_whole_times(self):
        self.assertEqual(subpath(OPEN, (0, 1), (2, 1)), OPEN)
        self.assertEqual(subpath(OPEN, (0, 1), (1, 1)), ((A, B), ((C1, C2),), False))
        self.assertEqual(subpath(OPEN, (1, 1), (2, 1)), ((B, C), (None,), False))
        self.assertEqual(subpath(CYCLE, (0, 1), (3, 1)), ((A, B, C, A), CYCLE[1], False))
        self.assertEqual(subpath(CYCLE, (-1, 1), (1, 1)), ((C, A, B), ((C3, C4), (C1, C2)), False))

    def test_equal_times(self):
        self.assertEqual(subpath(OPEN, (3, 2), (3, 2)), ((point(4, 2),), (), False))
        self.assertEqual(subpath(OPEN, (1, 1), (1, 1)), ((B,), (), False))
        self.assertEqual(subpath(CYCLE, (-3, 2), (-3, 2)), ((point(4, 2),), (), False))
        self.assertEqual(subpath(CYCLE, (5, 1), (5, 1)), ((C,), (), False))

    def test_start_greater_than_end(self):
        for path in (OPEN, CYCLE):
            for start, end in ((2, 0), (Fraction(7, 4), Fraction(1, 3)), (Fraction(2, 3), Fraction(1, 3))):
                forth = subpath(path, number(end), number(start))
                self.assertEqual(subpath(path, number(start), number(end)), reverse(forth))
        self.assertEqual(subpath(OPEN, (2, 1), (0, 1)), ((C, B, A), (None, (C2, C1)), False))

    def test_both_ends_in_one_segment(self):
        line = subpath(OPEN, (5, 4), (7, 4))
        self.assertEqual(line, (tuple(points((4, 1), (4, 3))), (None,), False))
        curve = polygon([A, A], cycle=False)[:1] + ((tuple(points((0, 12), (12, 12))),), False)
        self.assertEqual(
            subpath(curve, (1, 4), (3, 4)),
            (tuple(points((Fraction(27, 16), Fraction(27, 4)), (Fraction(81, 16), Fraction(27, 4)))),
             (tuple(points((Fraction(57, 16), Fraction(39, 4)), (Fraction(99, 16), Fraction(39, 4)))),),
             False))

    def test_times_outside_of_an_open_path(self):
        self.assertEqual(subpath(OPEN, (-3, 1), (9, 2)), OPEN)
        self.assertEqual(subpath(OPEN, (LIMIT, 1), (-LIMIT, 1)), reverse(OPEN))
        self.assertEqual(subpath(OPEN, (-3, 1), (-1, 2)), ((A,), (), False))
        self.assertEqual(subpath(OPEN, (7, 1), (3, 1)), ((C,), (), False))
        self.assertEqual(subpath(OPEN, (-1, 1), (0, 1)), ((A,), (), False))

    def test_times_of_a_cycle_stay_as_they_are(self):
        self.assertEqual(subpath(CYCLE, (0, 1), (6, 1))[0], (A, B, C, A, B, C, A))
        self.assertEqual(subpath(CYCLE, (0, 1), (6, 1))[1], CYCLE[1] + CYCLE[1])
        self.assertEqual(subpath(CYCLE, (LIMIT - 1, 1), (LIMIT, 1)), ((A, B), ((C1, C2),), False))
        self.assertEqual(subpath(CYCLE, (-LIMIT, 1), (-LIMIT + 2, 1)), ((C, A, B), ((C3, C4), (C1, C2)), False))

    def test_one_knot(self):
        self.assertEqual(subpath(SINGLE, (-1, 1), (5, 1)), ((B,), (), False))
        self.assertEqual(subpath(SINGLE, (5, 2), (-1, 1)), ((B,), (), False))
        self.assertEqual(subpath(RING, (0, 1), (2, 1)), ((B, B, B), ((C1, C2), (C1, C2)), False))
        self.assertEqual(subpath(RING, (1, 1), (0, 1)), ((B, B), ((C2, C1),), False))

    def test_any_times(self):
        chance = Random(17)
        paths = (OPEN, CYCLE, SINGLE, RING, polygon([A, B, C, D], cycle=True), polygon([A, B, D], cycle=False))
        for path in paths:
            for _ in range(80):
                start = Fraction(chance.randint(-20, 20), chance.randint(1, 4))
                end = start + Fraction(chance.randint(-30, 30), chance.randint(2, 5))
                self.check(path, start, end)

    def test_24_knots_and_one_more(self):
        square = polygon([A, B, C, D], cycle=True)
        for start, end in ((0, 23), (-7, 16), (Fraction(1, 2), Fraction(45, 2)), (Fraction(1, 2), 23),
                           (0, Fraction(45, 2)), (Fraction(-1, 9), Fraction(190, 9))):
            self.assertEqual(len(subpath(square, number(start), number(end))[0]), 24)
            self.assertEqual(len(subpath(square, number(end), number(start))[0]), 24)
            self.check(square, Fraction(start), Fraction(end))
        for start, end in ((0, 24), (-7, 17), (Fraction(1, 2), Fraction(47, 2)), (Fraction(1, 2), 24),
                           (0, Fraction(47, 2)), (Fraction(-1, 9), 23), (-LIMIT, LIMIT)):
            with self.assertRaises(TooMany):
                subpath(square, number(start), number(end))
            with self.assertRaises(TooMany):
                subpath(square, number(end), number(start))

    def test_an_open_path_of_24_knots(self):
        path = polygon(points(*((k, 0) for k in range(24))), cycle=False)
        self.assertEqual(subpath(path, (-LIMIT, 1), (LIMIT, 1)), path)
        self.assertEqual(len(subpath(path, (1, 2), (45, 2))[0]), 24)

    def test_too_many_comes_before_too_great(self):
        far = polygon([point(-LIMIT, 0), point(LIMIT, 0)], cycle=True)
        with self.assertRaises(TooGreat):
            subpath(far, (1, 2), (3, 1))
        with self.assertRaises(TooMany):
            subpath(far, (1, 2), (30, 1))
        ring = polygon([A, A, A], cycle=True)
        with self.assertRaises(TooGreat):
            subpath(ring, (-1, LIMIT), (1, 1))
        with self.assertRaises(TooMany):
            subpath(ring, (-1, LIMIT), (23, 1))

    def test_nothing_is_cut_at_whole_times(self):
        low, high = point(-LIMIT, 0), point(LIMIT, 0)
        for segment in (None, (high, low)):
            ring = ((low, high), (segment, segment), True)
            self.assertEqual(subpath(ring, (0, 1), (2, 1)), ((low, high, low), (segment, segment), False))
            self.assertEqual(subpath(ring, (-1, 1), (0, 1)), ((high, low), (segment,), False))
            with self.assertRaises(TooGreat):
                subpath(ring, (0, 1), (1, 2))
            with self.assertRaises(TooGreat):
                subpath(ring, (1, 2), (1, 1))

    def test_the_later_time_is_cut_first(self):
        line = polygon([A, A], cycle=False)
        # Cut first at the earlier time, the fraction for the later one would exceed the limits.
        self.assertEqual(subpath(line, (1, LIMIT), (1, LIMIT - 1)), ((A, A), (None,), False))
        # (earlier - n) / (later - n) exceeds the limits, although both points can be calculated.
        self.assertEqual(point_at(line, (1, LIMIT - 1)), A)
        self.assertEqual(point_at(line, (LIMIT - 3, LIMIT)), A)
        with self.assertRaises(TooGreat):
            subpath(line, (1, LIMIT - 1), (LIMIT - 3, LIMIT))
        with self.assertRaises(TooGreat):
            subpath(line, (LIMIT - 3, LIMIT), (1, LIMIT - 1))

    def test_the_points_at_the_ends_are_those_of_their_times(self):
        # To cut the curve at 1/2 and its first part at 1/3 exceeds no limit, to cut it at 1/6 does.
        unit = 15 * 10 ** 15 + 1
        a, c1, c2, b = points(*((k * unit, 0) for k in (5, -8, 5, 4)))
        first, cut, _ = cut_segment(a, (c1, c2), b, (1, 2))
        self.assertEqual(cut_segment(a, first, cut, (1, 3))[1], bezier(a, (c1, c2), b, Fraction(1, 6)))
        curve = ((a, b), ((c1, c2),), False)
        self.assertEqual(point_at(curve, (1, 2)), cut)
        for start, end in (((1, 6), (1, 2)), ((1, 2), (1, 6)), ((1, 6), (1, 6))):
            with self.assertRaises(TooGreat):
                subpath(curve, start, end)

    def test_the_path_stays_as_it_is(self):
        knots, segments, is_cycle = CYCLE
        subpath(CYCLE, (-7, 2), (9, 4))
        self.assertEqual(CYCLE, ((A, B, C), ((C1, C2), None, (C3, C4)), True))
        self.assertEqual(CYCLE, (knots, segments, is_cycle))


if __name__ == "__main__":
    unittest.main()
