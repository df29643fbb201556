"""Points 4 and 5: numbers, their limits, and rounding."""

import math
import unittest
from fractions import Fraction
from random import Random

from fontwinding.errors import DivisionByZero, FontError, TooGreat
from fontwinding.ratios import (
    LIMIT, add, compare, divide, floor_of, multiply, nearest, ratio, sixty_fourths, subtract)
from tests.support import is_number, number, value

SMALL = [number(Fraction(n, d)) for n in range(-7, 8) for d in range(1, 8)]
EDGES = [(LIMIT, 1), (-LIMIT, 1), (1, LIMIT), (-1, LIMIT), (LIMIT - 1, LIMIT), (LIMIT, LIMIT - 1),
         (1 - LIMIT, LIMIT), (-LIMIT, LIMIT - 1), (0, 1), (1, 1), (-1, 1), (1, 2), (-1, 2)]


def expected(result):
    """The number of an exact result, or None if it exceeds the limits."""
    if abs(result.numerator) > LIMIT or result.denominator > LIMIT:
        return None
    return number(result)


class RatioTest(unittest.TestCase):
    def test_limit(self):
        self.assertEqual(LIMIT, 1000000000000000000)

    def test_example(self):
        self.assertEqual(ratio(6, -4), (-3, 2))

    def test_signs_and_common_factors(self):
        self.assertEqual(ratio(6, 4), (3, 2))
        self.assertEqual(ratio(-6, 4), (-3, 2))
        self.assertEqual(ratio(-6, -4), (3, 2))
        self.assertEqual(ratio(4, -2), (-2, 1))
        for n in range(-30, 31):
            for d in list(range(-12, 0)) + list(range(1, 13)):
                self.assertEqual(ratio(n, d), number(Fraction(n, d)))
                self.assertTrue(is_number(ratio(n, d)))

    def test_zero(self):
        for d in (1, -1, 5, -5, LIMIT, -10 ** 40):
            self.assertEqual(ratio(0, d), (0, 1))

    def test_division_by_zero(self):
        for n in (0, 1, -1, LIMIT + 1, -10 ** 40):
            with self.assertRaises(DivisionByZero):
                ratio(n, 0)

    def test_errors_are_font_errors_and_value_errors(self):
        for n, d in ((1, 0), (LIMIT + 1, 1)):
            for kind in (FontError, ValueError):
                with self.assertRaises(kind):
                    ratio(n, d)

    def test_exactly_at_the_limits(self):
        self.assertEqual(ratio(LIMIT, 1), (LIMIT, 1))
        self.assertEqual(ratio(LIMIT, -1), (-LIMIT, 1))
        self.assertEqual(ratio(-LIMIT, -1), (LIMIT, 1))
        self.assertEqual(ratio(1, LIMIT), (1, LIMIT))
        self.assertEqual(ratio(1, -LIMIT), (-1, LIMIT))
        self.assertEqual(ratio(LIMIT - 1, LIMIT), (LIMIT - 1, LIMIT))
        self.assertEqual(ratio(LIMIT, LIMIT), (1, 1))

    def test_one_beyond_the_limits(self):
        for n, d in ((LIMIT + 1, 1), (-LIMIT - 1, 1), (LIMIT + 1, -1), (1, LIMIT + 1), (1, -LIMIT - 1),
                     (-1, LIMIT + 1), (LIMIT, LIMIT + 1), (LIMIT + 1, LIMIT)):
            with self.assertRaises(TooGreat):
                ratio(n, d)

    def test_huge_arguments_with_a_result_within_the_limits(self):
        huge = 10 ** 300
        self.assertEqual(ratio(6 * huge, -4 * huge), (-3, 2))
        self.assertEqual(ratio(LIMIT * huge, huge), (LIMIT, 1))
        self.assertEqual(ratio(huge, LIMIT * huge), (1, LIMIT))
        self.assertEqual(ratio(LIMIT + 1, LIMIT + 1), (1, 1))
        self.assertEqual(ratio(2 * LIMIT + 2, 2 * LIMIT + 2), (1, 1))
        with self.assertRaises(TooGreat):
            ratio((LIMIT + 1) * huge, huge)
        with self.assertRaises(TooGreat):
            ratio(huge, (LIMIT + 1) * huge)


class OperationsTest(unittest.TestCase):
    def check(self, operation, exact, a, b):
        wanted = expected(exact(value(a), value(b)))
        if wanted is None:
            with self.assertRaises(TooGreat):
                operation(a, b)
        else:
            self.assertEqual(operation(a, b), wanted)

    def check_all(self, numbers):
        for a in numbers:
            for b in numbers:
                self.check(add, lambda x, y: x + y, a, b)
                self.check(subtract, lambda x, y: x - y, a, b)
                self.check(multiply, lambda x, y: x * y, a, b)
                if b != (0, 1):
                    self.check(divide, lambda x, y: x / y, a, b)

    def test_small_numbers(self):
        self.check_all(sorted(set(SMALL)))

    def test_numbers_at_the_limits(self):
        self.check_all(EDGES)

    def test_any_numbers(self):
        chance = Random(4)
        numbers = []
        while len(numbers) < 60:
            top = chance.randint(-10 ** chance.randint(0, 18), 10 ** chance.randint(0, 18))
            numbers.append(number(Fraction(top, chance.randint(1, 10 ** chance.randint(0, 18)))))
        self.check_all(numbers)

    def test_parts_between_may_exceed_the_limits(self):
        self.assertEqual(add((1, LIMIT), (1, LIMIT)), (1, LIMIT // 2))
        self.assertEqual(subtract((1, LIMIT - 1), (1, LIMIT - 1)), (0, 1))
        self.assertEqual(subtract((LIMIT, 3), (LIMIT - 2, 3)), (2, 3))
        self.assertEqual(multiply((LIMIT, 1), (1, LIMIT)), (1, 1))
        self.assertEqual(divide((LIMIT, 1), (LIMIT, 1)), (1, 1))
        self.assertEqual(divide((1, LIMIT), (-1, LIMIT)), (-1, 1))

    def test_results_exactly_at_and_beyond_the_limits(self):
        self.assertEqual(add((LIMIT - 1, 1), (1, 1)), (LIMIT, 1))
        self.assertEqual(subtract((1 - LIMIT, 1), (1, 1)), (-LIMIT, 1))
        self.assertEqual(multiply((LIMIT // 2, 1), (-2, 1)), (-LIMIT, 1))
        self.assertEqual(divide((1, LIMIT // 2), (2, 1)), (1, LIMIT))
        for operation, a, b in (
                (add, (LIMIT, 1), (1, 1)), (add, (1, LIMIT), (1, LIMIT - 1)), (add, (LIMIT, 1), (1, 2)),
                (subtract, (-LIMIT, 1), (1, 1)), (subtract, (1, LIMIT), (1, LIMIT - 1)),
                (multiply, (LIMIT, 1), (2, 1)), (multiply, (1, LIMIT), (1, 3)), (multiply, (-LIMIT, 1), (3, 2)),
                (divide, (LIMIT, 1), (1, 2)), (divide, (1, LIMIT), (3, 1)), (divide, (1, LIMIT), (LIMIT, 1))):
            with self.assertRaises(TooGreat):
                operation(a, b)

    def test_divide_by_zero(self):
        for a in ((0, 1), (1, 1), (-LIMIT, 1), (1, LIMIT)):
            with self.assertRaises(DivisionByZero):
                divide(a, (0, 1))


class CompareTest(unittest.TestCase):
    def test_like_fractions(self):
        for numbers in (SMALL, EDGES):
            for a in numbers:
                for b in numbers:
                    result = compare(a, b)
                    self.assertIs(type(result), int)
                    self.assertEqual(result, (value(a) > value(b)) - (value(a) < value(b)))

    def test_at_the_limits(self):
        self.assertEqual(compare((LIMIT - 1, LIMIT), (LIMIT - 2, LIMIT - 1)), 1)
        self.assertEqual(compare((LIMIT - 2, LIMIT - 1), (LIMIT - 1, LIMIT)), -1)
        self.assertEqual(compare((-LIMIT, 1), (LIMIT, 1)), -1)
        self.assertEqual(compare((LIMIT, 1), (1, LIMIT)), 1)
        self.assertEqual(compare((LIMIT, 1), (LIMIT, 1)), 0)


class RoundingTest(unittest.TestCase):
    def test_floor_of(self):
        for n in range(-20, 21):
            for d in range(1, 9):
                self.assertEqual(floor_of(number(Fraction(n, d))), math.floor(Fraction(n, d)))
        self.assertEqual(floor_of((-1, LIMIT)), -1)
        self.assertEqual(floor_of((1, LIMIT)), 0)
        self.assertEqual(floor_of((-LIMIT, 1)), -LIMIT)
        self.assertEqual(floor_of((-LIMIT, 3)), -(LIMIT // 3) - 1)

    def test_nearest_halves(self):
        halves = {(5, 2): 3, (-5, 2): -2, (1, 2): 1, (-1, 2): 0, (3, 2): 2, (-3, 2): -1}
        for half, wanted in halves.items():
            self.assertEqual(nearest(half), wanted)

    def test_nearest(self):
        for n in range(-40, 41):
            for d in range(1, 9):
                exact = Fraction(n, d)
                self.assertEqual(nearest(number(exact)), math.floor(exact + Fraction(1, 2)))

    def test_nearest_at_the_limits(self):
        self.assertEqual(nearest((LIMIT, 1)), LIMIT)
        self.assertEqual(nearest((-LIMIT, 1)), -LIMIT)
        self.assertEqual(nearest((1, LIMIT)), 0)
        self.assertEqual(nearest((LIMIT - 1, LIMIT)), 1)
        self.assertEqual(nearest((LIMIT - 1, 2)), LIMIT // 2)
        self.assertEqual(nearest((1 - LIMIT, 2)), 1 - LIMIT // 2)
        self.assertEqual(nearest((LIMIT // 2 - 1, LIMIT - 1)), 0)

    def test_sixty_fourths(self):
        for n in range(-300, 301):
            exact = Fraction(n, 128)
            self.assertEqual(sixty_fourths(number(exact)), math.floor(exact * 64 + Fraction(1, 2)))
        self.assertEqual(sixty_fourths((1, 128)), 1)
        self.assertEqual(sixty_fourths((-1, 128)), 0)
        self.assertEqual(sixty_fourths((-3, 128)), -1)
        self.assertEqual(sixty_fourths((1, 3)), 21)
        self.assertEqual(sixty_fourths((-1, 3)), -21)
        self.assertEqual(sixty_fourths((-2, 1)), -128)

    def test_sixty_fourths_has_no_limits(self):
        self.assertEqual(sixty_fourths((LIMIT, 1)), 64 * LIMIT)
        self.assertEqual(sixty_fourths((-LIMIT, 1)), -64 * LIMIT)
        self.assertEqual(sixty_fourths((1, LIMIT)), 0)
        self.assertEqual(sixty_fourths((-1, LIMIT)), 0)
        self.assertEqual(sixty_fourths((LIMIT, 3)), (128 * LIMIT + 3) // 6)

    def test_results_are_integers(self):
        for function in (floor_of, nearest, sixty_fourths):
            for a in SMALL:
                self.assertIs(type(function(a)), int)


if __name__ == "__main__":
    unittest.main()
