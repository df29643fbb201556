"""Points 53 and 54: the tables of metrics."""

import unittest
from itertools import combinations
from random import Random

from fontwinding.metrics import LIMITS, groups, least_tolerance, table, table_value


def least_by_pieces(values, limit):
    """The least greatest difference within a piece, over all ways to divide the values into pieces."""
    ordered = sorted({value for value in values if value > 0})
    best = ordered[-1] - ordered[0]
    for count in range(min(limit, len(ordered))):
        for cuts in combinations(range(1, len(ordered)), count):
            ends = (0,) + cuts + (len(ordered),)
            best = min(best, max(ordered[b - 1] - ordered[a] for a, b in zip(ends, ends[1:])))
    return best


class GroupsTest(unittest.TestCase):
    def test_groups(self):
        self.assertEqual(groups([10, 12, 30], 0), [(10, 10), (12, 12), (30, 30)])
        self.assertEqual(groups([10, 12, 30], 1), [(10, 10), (12, 12), (30, 30)])
        self.assertEqual(groups([10, 12, 30], 2), [(10, 12), (30, 30)])
        self.assertEqual(groups([10, 12, 30], 19), [(10, 12), (30, 30)])
        self.assertEqual(groups([10, 12, 30], 20), [(10, 30)])
        self.assertEqual(groups([10, 12, 30], 10 ** 50), [(10, 30)])

    def test_the_tolerance_counts_from_the_least_value(self):
        self.assertEqual(groups([1, 3, 5, 7, 9], 4), [(1, 5), (7, 9)])
        self.assertEqual(groups([1, 3, 5, 7, 9], 3), [(1, 3), (5, 7), (9, 9)])

    def test_order_duplicates_and_zeros(self):
        self.assertEqual(groups([30, 0, 12, 10, 12, 0, 30], 2), [(10, 12), (30, 30)])
        self.assertEqual(groups([], 3), [])
        self.assertEqual(groups([0, 0], 3), [])
        self.assertEqual(groups([7], 0), [(7, 7)])
        self.assertEqual(groups([1, 2], 1), [(1, 2)])

    def test_arguments_do_not_change(self):
        values = [30, 0, 12, 10, 12]
        for told in (groups(values, 2), table(values, 2), least_tolerance(values, 2), table_value(values, 2, 12)):
            self.assertEqual(values, [30, 0, 12, 10, 12])

    def test_huge_values(self):
        big = 10 ** 400
        self.assertEqual(groups([big, big + 5, 2 * big], 5), [(big, big + 5), (2 * big, 2 * big)])


class ToleranceTest(unittest.TestCase):
    def test_limits(self):
        self.assertEqual(LIMITS, (8, 4, 3, 2))

    def test_example_of_the_interface(self):
        self.assertEqual(least_tolerance([10, 12, 30], 2), 2)
        self.assertEqual(table([10, 12, 30], 2), [0, 11, 30])

    def test_no_and_few_values(self):
        self.assertEqual(least_tolerance([], 1), 0)
        self.assertEqual(least_tolerance([0, 0], 1), 0)
        self.assertEqual(least_tolerance([5], 1), 0)
        self.assertEqual(least_tolerance([5, 5, 0], 1), 0)
        self.assertEqual(least_tolerance([5, 9], 2), 0)
        self.assertEqual(least_tolerance([5, 9], 10 ** 20), 0)
        self.assertEqual(least_tolerance([5, 9], 1), 4)
        self.assertEqual(least_tolerance([9, 5, 0, 5], 1), 4)

    def test_huge_values(self):
        big = 10 ** 300
        self.assertEqual(least_tolerance([big, 3 * big, 4 * big + 1], 2), big + 1)
        self.assertEqual(least_tolerance([1, big], 1), big - 1)
        self.assertEqual(least_tolerance([7 ** k for k in range(500)], 499), 6)
        self.assertEqual(least_tolerance(list(range(1, 20001)), 8), 2499)
        self.assertEqual(table([1, 10 ** 3000], 1), [0, (1 + 10 ** 3000) // 2])

    def test_against_all_divisions(self):
        random = Random(7)
        for _ in range(400):
            values = [random.randrange(60) for _ in range(random.randrange(1, 9))] + [random.randrange(1, 60)]
            limit = random.randrange(1, 6)
            least = least_tolerance(values, limit)
            self.assertEqual(least, least_by_pieces(values, limit), (values, limit))
            self.assertLessEqual(len(groups(values, least)), limit)
            if least > 0:
                self.assertGreater(len(groups(values, least - 1)), limit)


class TableTest(unittest.TestCase):
    def test_tables(self):
        self.assertEqual(table([], 3), [0])
        self.assertEqual(table([0], 3), [0])
        self.assertEqual(table([7, 7, 7], 1), [0, 7])
        self.assertEqual(table([1, 2], 1), [0, 1])
        self.assertEqual(table([1, 4], 1), [0, 2])
        self.assertEqual(table([64, 128, 192, 256], 4), [0, 64, 128, 192, 256])
        self.assertEqual(table([64, 128, 192, 256, 257], 4), [0, 64, 128, 192, 256])
        self.assertEqual(table([64, 128, 192, 256, 260], 4), [0, 64, 128, 192, 258])

    def test_table_values(self):
        values = [10, 12, 30, 0]
        self.assertEqual([table_value(values, 2, value) for value in values], [11, 11, 30, 0])
        self.assertEqual([table_value(values, 1, value) for value in values], [20, 20, 20, 0])
        self.assertEqual([table_value(values, 3, value) for value in values], [10, 12, 30, 0])
        self.assertEqual(table_value([], 1, 0), 0)
        self.assertEqual(table_value([5], 1, 0), 0)

    def test_each_value_has_a_value_in_the_table(self):
        random = Random(8)
        for _ in range(200):
            values = [random.randrange(200) for _ in range(random.randrange(1, 25))]
            for limit in LIMITS:
                made = table(values, limit)
                self.assertEqual(made, sorted(set(made)))
                self.assertLessEqual(len(made), limit + 1)
                for value in values:
                    near = table_value(values, limit, value)
                    self.assertIn(near, made)
                    self.assertEqual(near == 0, value == 0)
                    self.assertLessEqual(2 * abs(near - value), least_tolerance(values, limit) + 1)


if __name__ == "__main__":
    unittest.main()
