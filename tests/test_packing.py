"""Points 60 to 63: rows packed as nybbles."""

import unittest
from itertools import groupby
from random import Random

from fontwinding.packing import best_way, pack, unpack
from tests.test_nybbles import written

RANDOM = Random(5)


def packed(rows, way):
    """The nybbles of rows, as the document says it."""
    rows = [tuple(row) for row in rows]
    if way == 14:
        text = "".join(str(pixel) for row in rows for pixel in row)
        text += "0" * (-len(text) % 4)
        return [int(text[at:at + 4], 2) for at in range(0, len(text), 4)]
    kept = [at for at, row in enumerate(rows) if at == 0 or row != rows[at - 1] or len(set(row)) == 1]
    pixels = [(pixel, at) for at in kept for pixel in rows[at]]
    nybbles = []
    told = set()
    for _, run in groupby(pixels, key=lambda one: one[0]):
        run = list(run)
        row = run[0][1]
        count = min([at for at in kept if at > row] + [len(rows)]) - row - 1
        if row not in told and count > 0:
            nybbles += [15] if count == 1 else [14] + written(count, way)
        told.add(row)
        nybbles += written(len(run), way)
    return nybbles


def random_rows(columns, count, density=0.5, repeat=0.3):
    rows = []
    for _ in range(count):
        if rows and RANDOM.random() < repeat:
            rows.append(rows[-1])
        else:
            rows.append(tuple(int(RANDOM.random() < density) for _ in range(columns)))
    return tuple(rows)


def checkered(columns, count):
    return tuple(tuple((i + j) % 2 for i in range(columns)) for j in range(count))


EXAMPLES = (
    ((0,),), ((1,),), ((0, 1),), ((1, 0),), ((0,), (1,)), ((1,), (1,)), ((1, 1), (1, 1)), ((0, 1), (0, 1)),
    ((0, 1), (0, 1), (0, 1)), ((0, 1), (0, 1), (1, 1), (1, 1), (0, 1), (0, 1)), ((1, 1), (1, 1), (1, 0), (1, 0)),
    ((1, 0, 1),) * 48, ((0, 0, 1),) * 20 + ((1, 0, 0),) * 20, ((1,) * 48,), ((1,) * 48,) * 48, ((0,) * 48,) * 48,
    tuple((k % 2,) for k in range(48)), ((1,),) * 48, ((0,) * 47 + (1,),) * 48, checkered(48, 48), checkered(5, 7),
    ((0, 0, 0), (0, 0, 1), (0, 0, 1), (0, 0, 0), (0, 0, 0), (0, 1, 0), (0, 1, 0), (0, 1, 0)),
)


class PackTest(unittest.TestCase):
    def test_example_of_the_interface(self):
        self.assertEqual(pack(((0, 1), (0, 1), (0, 1)), 1), [14, 2, 0, 1, 1])

    def test_by_hand(self):
        self.assertEqual(pack(((0, 1), (0, 1)), 3), [15, 1, 1])
        self.assertEqual(pack(((0, 1), (1, 0), (1, 0), (0, 0)), 5), [1, 2, 15, 3])
        # The run that reaches into the row that repeats does not begin in it.
        self.assertEqual(pack(((0, 0, 1), (1, 0, 0), (1, 0, 0), (1, 0, 0)), 5), [2, 2, 14, 3 - 1, 2])
        # Rows of equal pixels are no repetitions.
        self.assertEqual(pack(((1, 1), (1, 1), (1, 1)), 13), [6])
        self.assertEqual(pack(((0, 0), (0, 0), (0, 1), (0, 1)), 13), [5, 15, 1])
        # Two rows that repeat, one behind the other.
        self.assertEqual(pack(((0, 1), (0, 1), (1, 0), (1, 0)), 13), [15, 1, 2, 15, 1])
        self.assertEqual(pack(((1, 0, 1, 1, 0),), 14), [11, 0])
        self.assertEqual(pack(((1, 0), (1, 1)), 14), [11])
        self.assertEqual(pack(((1,), (0,), (1,), (0,), (1,)), 14), [10, 8])

    def test_repetitions_begin_at_the_row_above_only(self):
        rows = ((0, 1), (1, 0), (0, 1))
        self.assertEqual(pack(rows, 13), [1, 2, 2, 1])

    def test_no_rows(self):
        for way in range(15):
            self.assertEqual(pack((), way), [])
            self.assertEqual(pack([], way), [])
        self.assertEqual(best_way(()), 0)
        self.assertEqual(best_way([]), 0)

    def test_against_the_document(self):
        many = [random_rows(RANDOM.randrange(1, 49), RANDOM.randrange(1, 49), RANDOM.choice((0, 0.1, 0.5, 0.9, 1)),
                            RANDOM.choice((0, 0.3, 0.9))) for _ in range(60)]
        for rows in EXAMPLES + tuple(many):
            for way in range(15):
                nybbles = pack(rows, way)
                self.assertEqual(nybbles, packed(rows, way), (rows, way))
                self.assertEqual(unpack(nybbles, way, len(rows[0]), len(rows), rows[0][0]), rows)
            counts = [len(pack(rows, way)) for way in range(15)]
            self.assertEqual(best_way(rows), counts.index(min(counts)))

    def test_lists_and_tuples(self):
        for rows in EXAMPLES:
            for way in (0, 1, 7, 13, 14):
                wanted = pack(rows, way)
                self.assertIs(type(wanted), list)
                for other in ([list(row) for row in rows], [tuple(row) for row in rows], tuple(map(list, rows)),
                              [list(row) if at % 2 else row for at, row in enumerate(rows)]):
                    copy = [list(row) for row in other]
                    self.assertEqual(pack(other, way), wanted)
                    self.assertEqual(best_way(other), best_way(rows))
                    self.assertEqual([list(row) for row in other], copy)


class UnpackTest(unittest.TestCase):
    def test_kinds_of_values(self):
        for way in range(15):
            rows = unpack(pack(((0, 1, 1), (1, 0, 0)), way), way, 3, 2, 0)
            self.assertIs(type(rows), tuple)
            self.assertEqual([type(row) for row in rows], [tuple, tuple])
            self.assertTrue(all(type(pixel) is int for row in rows for pixel in row))

    def test_the_first_pixel(self):
        for way in range(14):
            nybbles = pack(((0, 1, 1), (1, 0, 0)), way)
            self.assertEqual(unpack(nybbles, way, 3, 2, 1), ((1, 0, 0), (0, 1, 1)))

    def test_repetitions_in_the_middle_and_at_the_end(self):
        a, b, c = (0, 1, 0), (1, 1, 0), (0, 0, 0)
        for rows in ((a, b, b, c), (a, a, b), (b, a, a), (a, a, a), (c, a, a, c, c, b, b, b), (a, b, a, a, b, b)):
            for way in range(15):
                nybbles = pack(rows, way)
                before = list(nybbles)
                self.assertEqual(unpack(nybbles, way, 3, len(rows), rows[0][0]), rows)
                self.assertEqual(nybbles, before)


class BestTest(unittest.TestCase):
    def test_single_pixels(self):
        self.assertEqual(best_way(((1,),)), 1)
        self.assertEqual(best_way(((0,),)), 1)

    def test_the_lowest_of_several(self):
        self.assertEqual(best_way(((1,) * 5,)), 5)
        self.assertEqual(best_way(((1,) * 14,)), 0)
        self.assertEqual(best_way(checkered(5, 1)), 14)
        self.assertEqual(best_way(checkered(48, 48)), 14)
        self.assertEqual(best_way(((1,) * 48,) * 48), 0)

    def test_every_way_is_the_best_of_some_rows(self):
        self.assertEqual([best_way(((1,) * length,)) for length in range(1, 14)], list(range(1, 14)))


if __name__ == "__main__":
    unittest.main()
