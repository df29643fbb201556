"""Points 3, 25 and 29: pictures."""

import unittest
from random import Random

from fontwinding.errors import OutOfRange, TooGreat
from fontwinding.filling import fill_rows
from fontwinding.pictures import Picture
from tests.support import blank, is_rows, pixels, rows_with

MOST = 9999
HUGE = 10 ** 40
CORNERS = [(-8, -16), (39, -16), (-8, 31), (39, 31)]


def picture_with(weights):
    picture = Picture()
    picture.add_rows(rows_with(weights))
    return picture


def weights_of(picture):
    return pixels(picture.rows())


class WeightTest(unittest.TestCase):
    def test_all_are_0_at_first(self):
        self.assertEqual(Picture().rows(), blank())
        self.assertTrue(is_rows(Picture().rows()))
        self.assertEqual(Picture().total(), 0)
        self.assertEqual(Picture().on_pixels(), [])

    def test_weight(self):
        picture = picture_with({(-8, -16): 1, (39, -16): 2, (-8, 31): 3, (39, 31): 4, (5, -3): -7})
        self.assertEqual([picture.weight(*corner) for corner in CORNERS], [1, 2, 3, 4])
        self.assertEqual(picture.weight(5, -3), -7)
        self.assertEqual(picture.weight(-3, 5), 0)

    def test_off_the_canvas(self):
        picture = Picture()
        picture.add_rows([[1] * 48 for _ in range(48)])
        for i, j in ((-9, 0), (40, 0), (0, -17), (0, 32), (-9, -17), (40, 32), (HUGE, 0), (0, -HUGE)):
            with self.assertRaises(OutOfRange):
                picture.weight(i, j)

    def test_pictures_have_weights_of_their_own(self):
        one, other = Picture(), Picture()
        one.add_rows(rows_with({(0, 0): 5}))
        self.assertEqual(other.rows(), blank())


class AddRowsTest(unittest.TestCase):
    def test_with_and_without_a_factor(self):
        picture = Picture()
        self.assertIsNone(picture.add_rows(rows_with({(0, 0): 3, (1, 2): -4})))
        self.assertEqual(weights_of(picture), {(0, 0): 3, (1, 2): -4})
        picture.add_rows(rows_with({(0, 0): 2, (7, 7): 1}), factor=10)
        self.assertEqual(weights_of(picture), {(0, 0): 23, (1, 2): -4, (7, 7): 10})
        picture.add_rows(rows_with({(0, 0): 23, (1, 2): -4}), factor=-1)
        self.assertEqual(weights_of(picture), {(7, 7): 10})
        picture.add_rows([[MOST] * 48 for _ in range(48)], factor=0)
        self.assertEqual(weights_of(picture), {(7, 7): 10})

    def test_the_factor_is_passed_by_keyword(self):
        with self.assertRaises(TypeError):
            Picture().add_rows(blank(), 2)

    def test_items_and_factors_of_any_size(self):
        picture = Picture()
        picture.add_rows(blank(), factor=HUGE)
        picture.add_rows([[HUGE] * 48 for _ in range(48)], factor=0)
        self.assertEqual(picture.rows(), blank())
        picture = picture_with({(0, 0): MOST})
        picture.add_rows(rows_with({(0, 0): -2 * MOST}))
        self.assertEqual(picture.weight(0, 0), -MOST)
        for sign in (1, -1):
            with self.assertRaises(TooGreat):
                picture.add_rows(rows_with({(3, 3): 1}), factor=sign * HUGE)
            with self.assertRaises(TooGreat):
                picture.add_rows(rows_with({(3, 3): sign * HUGE}))

    def test_the_range_of_weights(self):
        for sign in (1, -1):
            picture = Picture()
            picture.add_rows(rows_with({(39, 31): sign}), factor=MOST)
            picture.add_rows(rows_with({(0, 0): sign * MOST}))
            self.assertEqual(weights_of(picture), {(39, 31): sign * MOST, (0, 0): sign * MOST})
            for pixel in ((39, 31), (0, 0)):
                with self.assertRaises(TooGreat):
                    picture.add_rows(rows_with({pixel: sign}))
            with self.assertRaises(TooGreat):
                Picture().add_rows(rows_with({(0, 0): sign * (MOST + 1)}))

    def test_no_weight_changes_if_one_is_too_great(self):
        everything = [[1] * 48 for _ in range(48)]
        for pixel in CORNERS + [(3, 4)]:
            picture = picture_with({pixel: MOST, (0, 0): 1})
            with self.assertRaises(TooGreat):
                picture.add_rows(everything)
            self.assertEqual(weights_of(picture), {pixel: MOST, (0, 0): 1})
            picture = picture_with({pixel: -MOST})
            with self.assertRaises(TooGreat):
                picture.add_rows(everything, factor=-1)
            self.assertEqual(weights_of(picture), {pixel: -MOST})

    def test_rows_are_copied_in_and_out(self):
        rows = rows_with({(0, 0): 3})
        picture = Picture()
        picture.add_rows(rows)
        self.assertEqual(rows, rows_with({(0, 0): 3}))
        rows[16][8] = 9
        rows.clear()
        self.assertEqual(weights_of(picture), {(0, 0): 3})
        told = picture.rows()
        told[16][8] = 9
        told[0] = []
        self.assertEqual(weights_of(picture), {(0, 0): 3})
        kept = picture.rows()
        picture.add_rows(kept)
        self.assertEqual(kept, rows_with({(0, 0): 3}))
        self.assertEqual(weights_of(picture), {(0, 0): 6})

    def test_rows_of_filling(self):
        picture = Picture()
        picture.add_rows(fill_rows([(0, 0), (64, 0), (64, 128), (0, 128), (0, 0)]), factor=2)
        self.assertEqual(weights_of(picture), {(0, 0): 2, (0, 1): 2})


class WholePictureTest(unittest.TestCase):
    def test_wipe(self):
        picture = picture_with({(0, 0): 3, (39, 31): -MOST})
        kept = picture.rows()
        self.assertIsNone(picture.wipe())
        self.assertEqual(picture.rows(), blank())
        self.assertEqual(kept, rows_with({(0, 0): 3, (39, 31): -MOST}))
        picture.add_rows(rows_with({(1, 1): 1}))
        self.assertEqual(weights_of(picture), {(1, 1): 1})

    def test_total(self):
        self.assertEqual(picture_with({(0, 0): 3, (39, 31): -5, (-8, -16): 100}).total(), 98)
        full = Picture()
        full.add_rows([[MOST] * 48 for _ in range(48)])
        self.assertEqual(full.total(), 2304 * MOST)

    def test_on_pixels_in_order(self):
        picture = picture_with({(5, 2): 1, (4, 2): MOST, (39, -16): 2, (-8, 31): 1, (-8, -16): 1, (0, 0): -1, (6, 1): 1})
        self.assertEqual(picture.on_pixels(), [(-8, -16), (39, -16), (6, 1), (4, 2), (5, 2), (-8, 31)])
        picture.on_pixels().clear()
        self.assertEqual(len(picture.on_pixels()), 6)


class ShiftedTest(unittest.TestCase):
    def test_all_directions(self):
        picture = picture_with({(0, 0): 3, (10, -4): -2})
        for di, dj in ((0, 0), (1, 0), (-1, 0), (0, 1), (0, -1), (5, 7), (-8, -9), (-8, 20), (29, -12)):
            told = picture.shifted(di, dj)
            self.assertIsInstance(told, Picture)
            self.assertEqual(weights_of(told), {(di, dj): 3, (10 + di, dj - 4): -2})
        self.assertEqual(weights_of(picture), {(0, 0): 3, (10, -4): -2})

    def test_what_leaves_the_canvas_is_lost(self):
        picture = picture_with({(-8, -16): 1, (39, -16): 2, (-8, 31): 3, (39, 31): 4})
        self.assertEqual(weights_of(picture.shifted(1, 0)), {(-7, -16): 1, (-7, 31): 3})
        self.assertEqual(weights_of(picture.shifted(-1, 0)), {(38, -16): 2, (38, 31): 4})
        self.assertEqual(weights_of(picture.shifted(0, 1)), {(-8, -15): 1, (39, -15): 2})
        self.assertEqual(weights_of(picture.shifted(0, -1)), {(-8, 30): 3, (39, 30): 4})
        self.assertEqual(weights_of(picture.shifted(1, 0).shifted(-1, 0)), {(-8, -16): 1, (-8, 31): 3})

    def test_by_large_and_huge_amounts(self):
        full = Picture()
        full.add_rows([[1] * 48 for _ in range(48)])
        self.assertEqual(weights_of(full.shifted(47, 47)), {(39, 31): 1})
        self.assertEqual(weights_of(full.shifted(-47, -47)), {(-8, -16): 1})
        self.assertEqual(weights_of(full.shifted(47, -47)), {(39, -16): 1})
        for di, dj in ((48, 0), (-48, 0), (0, 48), (0, -48), (96, 0), (0, -96), (HUGE, 0), (0, -HUGE), (-HUGE, HUGE)):
            self.assertEqual(full.shifted(di, dj).rows(), blank())
            self.assertEqual(full.shifted(di, dj).shifted(-di, -dj).rows(), blank())

    def test_the_two_pictures_do_not_change_each_other(self):
        picture = picture_with({(0, 0): 3})
        for told in (picture.shifted(0, 0), picture.shifted(2, 0)):
            told.add_rows([[1] * 48 for _ in range(48)])
            self.assertEqual(weights_of(picture), {(0, 0): 3})
        told = picture.shifted(0, 0)
        picture.wipe()
        self.assertEqual(weights_of(told), {(0, 0): 3})


class OperatorsTest(unittest.TestCase):
    def test_sum_difference_and_negation(self):
        one, other = picture_with({(0, 0): 3, (1, 1): 4}), picture_with({(0, 0): 5, (2, 2): -6})
        for told, wanted in ((one + other, {(0, 0): 8, (1, 1): 4, (2, 2): -6}),
                             (one - other, {(0, 0): -2, (1, 1): 4, (2, 2): 6}),
                             (other - one, {(0, 0): 2, (1, 1): -4, (2, 2): -6}),
                             (-one, {(0, 0): -3, (1, 1): -4}),
                             (-other, {(0, 0): -5, (2, 2): 6})):
            self.assertIsInstance(told, Picture)
            self.assertEqual(weights_of(told), wanted)
        self.assertEqual(weights_of(one), {(0, 0): 3, (1, 1): 4})
        self.assertEqual(weights_of(other), {(0, 0): 5, (2, 2): -6})

    def test_a_picture_with_itself(self):
        picture = picture_with({(0, 0): 3, (1, 1): -4})
        self.assertEqual(weights_of(picture + picture), {(0, 0): 6, (1, 1): -8})
        self.assertEqual((picture - picture).rows(), blank())
        self.assertEqual(weights_of(picture), {(0, 0): 3, (1, 1): -4})

    def test_the_range_of_weights(self):
        high, low, one = picture_with({(9, 9): MOST}), picture_with({(9, 9): -MOST}), picture_with({(9, 9): 1})
        self.assertEqual((high + low).rows(), blank())
        self.assertEqual(weights_of(high - one), {(9, 9): MOST - 1})
        self.assertEqual(weights_of(-high), {(9, 9): -MOST})
        self.assertEqual(weights_of(-low), {(9, 9): MOST})
        for action in (lambda: high + one, lambda: one + high, lambda: low - one, lambda: one - low,
                       lambda: low + low, lambda: high - low, lambda: high + high):
            with self.assertRaises(TooGreat):
                action()
        self.assertEqual(weights_of(high), {(9, 9): MOST})

    def test_operands_and_results_do_not_change_each_other(self):
        one, other = picture_with({(0, 0): 3}), picture_with({(0, 0): 5})
        results = [one + other, one - other, -one, one + Picture(), one - Picture()]
        kept = [weights_of(result) for result in results]
        for result in results:
            result.add_rows([[1] * 48 for _ in range(48)])
        self.assertEqual([weights_of(one), weights_of(other)], [{(0, 0): 3}, {(0, 0): 5}])
        results = [one + other, one - other, -one, one + Picture(), one - Picture()]
        one.wipe()
        other.add_rows(rows_with({(0, 0): 1}))
        self.assertEqual([weights_of(result) for result in results], kept)

    def test_any_pictures(self):
        chance = Random(29)
        for _ in range(20):
            one, other = ({(chance.randint(-8, 39), chance.randint(-16, 31)): chance.randint(-4000, 4000)
                           for _ in range(300)} for _ in range(2))
            p, q = picture_with(one), picture_with(other)
            for told, sign in ((p + q, 1), (p - q, -1)):
                wanted = {pixel: one.get(pixel, 0) + sign * other.get(pixel, 0) for pixel in one | other}
                self.assertEqual(told.rows(), rows_with(wanted))
                self.assertEqual(told.total(), sum(wanted.values()))
            self.assertEqual((p - q).rows(), (p + -q).rows())


if __name__ == "__main__":
    unittest.main()
