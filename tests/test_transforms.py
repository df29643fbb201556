"""Points 11, 12 and 13: transforms."""

import unittest
from fractions import Fraction
from itertools import product
from random import Random

from fontwinding.errors import DivisionByZero, TooGreat
from fontwinding.transforms import IDENTITY, apply, compose, inverse, scale_by, shift_by, slant_by, turn_by
from tests.support import LIMIT, is_number, is_point, number, place, point, value


def transform(*parts):
    return tuple(number(part) for part in parts)


def any_transform(chance):
    return transform(*(Fraction(chance.randint(-5, 5), chance.randint(1, 3)) for _ in range(6)))


def any_point(chance):
    return point(Fraction(chance.randint(-9, 9), chance.randint(1, 4)), chance.randint(-9, 9))


def moved(t, p):
    """The point to which a transform takes a point, over fractions."""
    tx, ty, xx, xy, yx, yy = map(value, t)
    x, y = place(p)
    return point(tx + xx * x + xy * y, ty + yx * x + yy * y)


class ApplyTest(unittest.TestCase):
    def test_identity(self):
        self.assertEqual(IDENTITY, ((0, 1), (0, 1), (1, 1), (0, 1), (0, 1), (1, 1)))
        for p in (point(0, 0), point(-3, Fraction(1, 2)), point(LIMIT, -LIMIT)):
            self.assertEqual(apply(IDENTITY, p), p)

    def test_each_part(self):
        self.assertEqual(apply(transform(1, 2, 3, 5, 7, 11), point(13, 17)), point(125, 280))
        self.assertEqual(apply(transform(1, 2, 3, 5, 7, 11), point(0, 0)), point(1, 2))

    def test_any_points(self):
        chance = Random(11)
        for _ in range(300):
            t, p = any_transform(chance), any_point(chance)
            self.assertEqual(apply(t, p), moved(t, p))
            self.assertTrue(is_point(apply(t, p)))

    def test_too_great_product_whose_sum_would_fit(self):
        for t in (transform(-LIMIT, 0, 2, 0, 0, 1), transform(0, 0, 2, -2, 0, 1),
                  transform(0, -LIMIT, 1, 0, 2, 0), transform(0, 0, 1, 0, 2, -2)):
            with self.assertRaises(TooGreat):
                apply(t, point(LIMIT, LIMIT))

    def test_the_sum_goes_from_left_to_right(self):
        self.assertEqual(apply(transform(-1, -1, 1, -1, 1, -1), point(LIMIT, LIMIT)), point(-1, -1))
        # The shift and the first product exceed the limits; all three would not.
        with self.assertRaises(TooGreat):
            apply(transform(1, 0, 1, -1, 0, 0), point(LIMIT, LIMIT))
        with self.assertRaises(TooGreat):
            apply(transform(0, 1, 0, 0, 1, -1), point(LIMIT, LIMIT))
        # The two products together exceed the limits; from left to right no sum does.
        self.assertEqual(apply(transform(-LIMIT, 0, 1, 1, 0, 0), point(LIMIT, LIMIT)), point(LIMIT, 0))
        self.assertEqual(apply(transform(0, -LIMIT, 0, 0, 1, 1), point(LIMIT, LIMIT)), point(0, LIMIT))


class MakersTest(unittest.TestCase):
    def test_shift_by(self):
        self.assertEqual(shift_by(point(3, Fraction(-1, 2))), transform(3, Fraction(-1, 2), 1, 0, 0, 1))
        self.assertEqual(apply(shift_by(point(3, -1)), point(1, 1)), point(4, 0))

    def test_scale_by(self):
        self.assertEqual(scale_by((2, 1), (-1, 3)), transform(0, 0, 2, 0, 0, Fraction(-1, 3)))
        self.assertEqual(apply(scale_by((2, 1), (-1, 3)), point(5, 6)), point(10, -2))
        self.assertEqual(scale_by((0, 1), (0, 1)), transform(0, 0, 0, 0, 0, 0))

    def test_slant_by(self):
        self.assertEqual(slant_by((1, 4)), transform(0, 0, 1, Fraction(1, 4), 0, 1))
        self.assertEqual(apply(slant_by((1, 4)), point(1, 8)), point(3, 8))

    def test_turn_by(self):
        self.assertEqual(turn_by(0), IDENTITY)
        self.assertEqual(turn_by(1), transform(0, 0, 0, -1, 1, 0))
        self.assertEqual(turn_by(2), transform(0, 0, -1, 0, 0, -1))
        self.assertEqual(turn_by(3), transform(0, 0, 0, 1, -1, 0))
        self.assertEqual(apply(turn_by(1), point(2, 1)), point(-1, 2))

    def test_turn_by_any_integer(self):
        for quarters in range(-12, 13):
            self.assertEqual(turn_by(quarters + 1), compose(turn_by(quarters), turn_by(1)))
        self.assertEqual(turn_by(-1), turn_by(3))
        self.assertEqual(turn_by(4 * 10 ** 50 + 1), turn_by(1))
        self.assertEqual(turn_by(-4 * 10 ** 50 - 1), turn_by(3))
        self.assertEqual(turn_by(-4 * 10 ** 50 + 2), turn_by(2))


class ComposeTest(unittest.TestCase):
    def test_each_part(self):
        first, second = transform(1, 2, 3, 5, 7, 11), transform(13, 17, 19, 23, 29, 31)
        self.assertEqual(compose(first, second), transform(78, 108, 218, 348, 304, 486))

    def test_order(self):
        shift, turn = shift_by(point(1, 0)), turn_by(1)
        self.assertEqual(apply(compose(shift, turn), point(0, 0)), point(0, 1))
        self.assertEqual(apply(compose(turn, shift), point(0, 0)), point(1, 0))

    def test_moves_like_the_two_one_after_the_other(self):
        chance = Random(12)
        for _ in range(200):
            t, u, p = any_transform(chance), any_transform(chance), any_point(chance)
            both = compose(t, u)
            self.assertEqual(apply(both, p), apply(u, apply(t, p)))
            self.assertTrue(type(both) is tuple and len(both) == 6 and all(map(is_number, both)))
            self.assertEqual(compose(IDENTITY, t), t)
            self.assertEqual(compose(t, IDENTITY), t)

    def test_too_great(self):
        great = transform(0, 0, LIMIT, 0, 0, 1)
        self.assertEqual(compose(great, IDENTITY), great)
        for first, second in ((great, scale_by((2, 1), (1, 1))),
                              (shift_by(point(LIMIT, 0)), shift_by(point(1, 0))),
                              (transform(0, 0, 0, LIMIT, 0, 1), transform(0, 0, 2, -LIMIT, 0, 1)),
                              (transform(0, 0, LIMIT, 0, LIMIT, 0), transform(0, 0, 1, 1, 0, 0)),
                              (transform(0, 0, LIMIT, 0, LIMIT, 0), transform(0, 0, 0, 0, 1, 1)),
                              (transform(0, 0, 0, LIMIT, 0, LIMIT), transform(0, 0, 0, 0, 1, 1)),
                              (transform(0, 0, LIMIT, 0, LIMIT, 0), transform(0, 0, 2, -2, 0, 0))):
            with self.assertRaises(TooGreat):
                compose(first, second)


class InverseTest(unittest.TestCase):
    def test_each_part(self):
        self.assertEqual(
            inverse(transform(1, 2, 3, 5, 7, 11)),
            transform(Fraction(1, 2), Fraction(-1, 2), Fraction(-11, 2), Fraction(5, 2), Fraction(7, 2),
                      Fraction(-3, 2)))
        self.assertEqual(inverse(IDENTITY), IDENTITY)
        self.assertEqual(inverse(shift_by(point(2, -3))), shift_by(point(-2, 3)))
        self.assertEqual(inverse(turn_by(1)), turn_by(3))

    def test_takes_back(self):
        chance = Random(13)
        for _ in range(200):
            t, p = any_transform(chance), any_point(chance)
            try:
                back = inverse(t)
            except DivisionByZero:
                continue
            self.assertEqual(apply(back, apply(t, p)), p)
            self.assertEqual(compose(t, back), IDENTITY)
            self.assertEqual(compose(back, t), IDENTITY)
            self.assertTrue(all(map(is_number, back)))

    def test_division_by_zero_exactly_if_d_is_zero(self):
        for xx, xy, yx, yy in product(range(-2, 3), repeat=4):
            t = transform(1, -1, xx, xy, yx, yy)
            if xx * yy == xy * yx:
                with self.assertRaises(DivisionByZero):
                    inverse(t)
            else:
                self.assertEqual(compose(t, inverse(t)), IDENTITY)

    def test_too_great_of_d_comes_before_division_by_zero(self):
        with self.assertRaises(TooGreat):
            inverse(transform(0, 0, LIMIT, LIMIT, LIMIT, LIMIT))
        with self.assertRaises(TooGreat):
            inverse(transform(0, 0, 1, 2, LIMIT, LIMIT))
        with self.assertRaises(DivisionByZero):
            inverse(transform(LIMIT, LIMIT, 1, 1, LIMIT, LIMIT))

    def test_too_great(self):
        # The difference, a quotient, a product of the shift, and a sum of the shift.
        for t in (transform(0, 0, LIMIT, 1, -1, 1),
                  transform(0, 0, Fraction(1, LIMIT), 0, 0, Fraction(1, 2)),
                  transform(LIMIT, 0, Fraction(1, 2), 0, 0, 1),
                  transform(LIMIT, LIMIT, 1, -1, 0, 1)):
            with self.assertRaises(TooGreat):
                inverse(t)
        self.assertEqual(inverse(transform(LIMIT, LIMIT, 1, 1, 0, 1)), transform(0, -LIMIT, 1, -1, 0, 1))
        with self.assertRaises(TooGreat):
            inverse(transform(LIMIT, LIMIT, 2, 1, 1, 1))

    def test_at_the_limits(self):
        self.assertEqual(inverse(transform(LIMIT, -LIMIT, 1, 0, 0, 1)), transform(-LIMIT, LIMIT, 1, 0, 0, 1))
        self.assertEqual(inverse(scale_by((LIMIT, 1), (1, 1))), scale_by((1, LIMIT), (1, 1)))


if __name__ == "__main__":
    unittest.main()
