"""Point 62: lengths as nybbles."""

import unittest

from fontwinding.nybbles import read_length, write_length

BEHIND = ([], [0], [0, 0, 0], [5], [13], [15, 14], [1, 2, 3])


def written(n, way):
    """The nybbles of a length, as the document says it."""
    m = 16 * (13 - way)
    if n <= way:
        return [n]
    if n <= way + m:
        return [way + 1 + (n - way - 1) // 16, (n - way - 1) % 16]
    digits = [int(digit, 16) for digit in f"{n - way - m + 15:x}"]
    return [0] * (len(digits) - 1) + digits


class LengthTest(unittest.TestCase):
    def test_examples_of_the_interface(self):
        self.assertEqual([write_length(20, 2), write_length(300, 2)], [[4, 1], [0, 8, 9]])

    def test_where_the_number_of_nybbles_changes(self):
        for way in range(14):
            m = 16 * (13 - way)
            changes = [1, way, way + 1, way + m, way + m + 1, way + m + 240, way + m + 241, 2304]
            for n in changes:
                if n > 0:
                    self.assertEqual(write_length(n, way), written(n, way), (n, way))
            self.assertEqual(len(write_length(way + m + 1, way)), 3)
            self.assertEqual(write_length(way + m + 1, way), [0, 1, 0])
            self.assertEqual(write_length(way + m + 240, way), [0, 15, 15])
            self.assertEqual(write_length(way + m + 241, way), [0, 0, 1, 0, 0])
        self.assertEqual(write_length(1, 0), [1, 0])
        self.assertEqual(write_length(208, 0), [13, 15])
        self.assertEqual(write_length(13, 13), [13])
        self.assertEqual(write_length(14, 13), [0, 1, 0])
        self.assertEqual(write_length(2304, 13), [0, 0, 9, 0, 2])

    def test_all_lengths(self):
        for way in range(14):
            for n in range(1, 2305):
                nybbles = write_length(n, way)
                self.assertEqual(nybbles, written(n, way))
                self.assertLess(nybbles[0], 14)
                self.assertEqual(read_length(nybbles, 0, way), (n, len(nybbles)))

    def test_reading_between_other_nybbles(self):
        for way in range(14):
            m = 16 * (13 - way)
            for n in (1, way, way + 1, way + 16, way + 17, way + m, way + m + 1, way + m + 240, way + m + 241, 2304):
                if n == 0:
                    continue
                nybbles = write_length(n, way)
                for before in BEHIND:
                    for after in BEHIND:
                        whole = before + nybbles + after
                        self.assertEqual(read_length(whole, len(before), way), (n, len(before) + len(nybbles)))
                        self.assertEqual(whole, before + nybbles + after)

    def test_several_lengths(self):
        for way in range(14):
            lengths = [1, 300, 14, 2304, 2, 208, 209, 48]
            nybbles = [nybble for n in lengths for nybble in write_length(n, way)]
            at = 0
            found = []
            while at < len(nybbles):
                n, at = read_length(nybbles, at, way)
                found.append(n)
            self.assertEqual(found, lengths)

    def test_kinds_of_values(self):
        self.assertIs(type(write_length(5, 3)), list)
        self.assertIs(type(read_length([5], 0, 5)), tuple)


if __name__ == "__main__":
    unittest.main()
