"""Points 65 and 66: files that break a rule, and files that keep all of them."""

import unittest
from random import Random

from fontwinding.errors import BadFile
from fontwinding.files import read_font, write_font
from fontwinding.fonts import Font
from fontwinding.ligatures import endless_pairs
from tests.fileform import Bad, parts_of
from tests.fonts import LABELS, STEPS, character, examples, parts, random_font
from tests.lines import ligature

HEAD = [0, 0, 0, 0, 0, 0, 0, 0]
TAIL = [0, 0]


def file_of(way, columns, count, nybbles, first=0, size=None):
    """A file of one character with these nybbles."""
    nybbles = nybbles + [0] * (len(nybbles) % 2)
    packed = [16 * nybbles[at] + nybbles[at + 1] for at in range(0, len(nybbles), 2)]
    size = len(packed) if size is None else size
    mark = 16 * way + (8 if way < 14 and first else 0)
    return [1, 5, mark, columns, count, 0, 0] + HEAD + [size // 256, size % 256] + packed + TAIL


# Where the packed bytes of such a file begin.
PACKED = 17


def wanted(data):
    """The bad place of a file by the document, None if there is none."""
    try:
        _, steps, labels, place = parts_of(data)
    except Bad as bad:
        return bad.position
    return place if endless_pairs(steps, labels) else None


class ReadingCase(unittest.TestCase):
    def place(self, data):
        copy = list(data)
        try:
            read_font(data)
        except BadFile as bad:
            place = bad.position
            self.assertIs(type(place), int)
        else:
            place = None
        self.assertEqual(data, copy)
        self.assertEqual(place, wanted(data), data)
        return place

    def bad(self, position, data):
        """The byte is the bad one, also if other bytes stand behind it, and also if none do."""
        self.assertEqual(self.place(data), position, data)
        if position < len(data):
            self.assertEqual(self.place(data[:position + 1]), position)
            for more in ([0], [255] * 5):
                self.assertEqual(self.place(data + more), position)

    def good(self, data):
        self.assertIsNone(self.place(data), data)
        return read_font(data)


class EndTest(ReadingCase):
    def test_each_file_cut_off_at_each_place(self):
        for font in examples()[:12] + examples()[-1:]:
            data = write_font(font)
            for end in range(len(data)):
                self.assertEqual(self.place(data[:end]), end)

    def test_bytes_behind_the_last_label(self):
        for font in examples()[:8]:
            data = write_font(font)
            for more in ([0], [255], [0, 0, 0]):
                self.assertEqual(self.place(data + more), len(data))

    def test_an_empty_list(self):
        self.bad(0, [])


class CharacterTest(ReadingCase):
    GOOD = [1, 5, 24, 1, 1, 8, 16, 0, 64, 0, 64, 0, 0, 0, 0, 0, 1, 16, 0, 0]

    def changed(self, *places):
        data = list(self.GOOD)
        for at, byte in places:
            data[at] = byte
        return data

    def test_the_number_of_characters(self):
        empty = [0] * 15
        for count in (0, 1, 24):
            data = [count]
            for code in range(count):
                data += [code] + empty
            self.good(data + TAIL)
        data = [25]
        for code in range(25):
            data += [code] + empty
        self.bad(0, data + TAIL)
        self.bad(0, self.changed((0, 255)))

    def test_codes(self):
        self.good(self.changed((1, 0)))
        self.good(self.changed((1, 127)))
        self.bad(1, self.changed((1, 128)))
        self.bad(1, self.changed((1, 255)))
        empty = [0] * 15
        for first, second in ((5, 5), (5, 4), (127, 0), (0, 0), (5, 128)):
            data = [2, first] + empty + [second] + empty + TAIL
            self.bad(17, data)
        self.good([2, 5] + empty + [6] + empty + TAIL)

    def test_the_byte_with_the_way(self):
        for low in range(1, 8):
            self.bad(2, self.changed((2, 24 + low)))
            self.bad(2, self.changed((2, 16 + low)))
        for way in (14 * 16 + 8, 15 * 16, 15 * 16 + 8, 14 * 16 + 1, 255):
            self.bad(2, self.changed((2, way)))
        self.good(self.changed((2, 14 * 16), (17, 128)))
        self.good(self.changed((2, 16)))
        self.good(self.changed((2, 13 * 16 + 8)))

    def test_columns_and_rows(self):
        self.bad(3, self.changed((3, 49)))
        self.bad(3, self.changed((3, 255)))
        self.bad(4, self.changed((4, 49)))
        self.bad(4, self.changed((4, 0)))
        self.bad(4, self.changed((3, 0)))
        self.bad(4, self.changed((3, 0), (4, 49)))
        # Without rows the byte with the way is 0.
        self.bad(4, self.changed((3, 0), (4, 0)))
        self.bad(4, self.changed((2, 8), (3, 0), (4, 0)))
        self.bad(4, self.changed((2, 14 * 16), (3, 0), (4, 0)))

    def test_left_and_bottom(self):
        self.good(self.changed((5, 47)))
        self.bad(5, self.changed((5, 48)))
        self.good(self.changed((6, 47)))
        self.bad(6, self.changed((6, 48)))
        rows = ((1,) * 40,) * 30
        data = write_font(Font((character(5, rows, 0, 2),), (), ()))
        self.assertEqual(data[5:7], [8, 18])
        self.good(data)
        self.bad(5, data[:5] + [9] + data[6:])
        self.bad(6, data[:6] + [19] + data[7:])
        empty = [1, 5, 0, 0, 0, 0, 0] + HEAD + [0, 0] + TAIL
        self.good(empty)
        for byte in (1, 8, 48):
            self.bad(5, empty[:5] + [byte] + empty[6:])
            self.bad(6, empty[:6] + [byte] + empty[7:])

    def test_metrics(self):
        for at in (7, 9, 11, 13):
            font = self.good(self.changed((at, 25), (at + 1, 0)))
            self.assertEqual(font.characters[0][4][(at - 7) // 2], 6400)
            self.bad(at + 1, self.changed((at, 25), (at + 1, 1)))
            self.bad(at + 1, self.changed((at, 26), (at + 1, 0)))
            self.bad(at + 1, self.changed((at, 255), (at + 1, 255)))

    def test_the_number_of_packed_bytes(self):
        self.bad(16, self.changed((15, 9), (16, 1)))
        self.bad(16, self.changed((15, 255), (16, 255)))
        self.bad(18, self.changed((15, 9), (16, 0)))
        empty = [1, 5, 0, 0, 0, 0, 0] + HEAD
        self.bad(16, empty + [0, 1, 0] + TAIL)
        self.bad(16, empty + [1, 0] + TAIL)
        # No packed bytes, although there are rows.
        self.bad(17, self.changed((16, 0)))

    def test_the_first_broken_rule_counts(self):
        self.bad(1, self.changed((1, 200), (2, 255), (3, 255)))
        self.bad(2, self.changed((2, 255), (4, 0), (17, 255)))
        self.bad(17, self.changed((17, 255), (18, 255)))


class BitsTest(ReadingCase):
    def test_bits_that_stand_for_no_pixel(self):
        self.assertEqual(self.good(file_of(14, 5, 1, [11, 8])).characters[0][3], ((1, 0, 1, 1, 1),))
        for nybble in (1, 2, 4, 9, 12, 15):
            self.bad(PACKED, file_of(14, 5, 1, [11, nybble]))
            self.bad(PACKED + 1, file_of(14, 3, 3, [11, 6, nybble]))
        self.good(file_of(14, 3, 1, [14]))
        for nybble in (1, 15, 7):
            self.bad(PACKED, file_of(14, 3, 1, [nybble]))
        self.good(file_of(14, 4, 1, [15]))

    def test_too_few_and_too_many(self):
        self.bad(PACKED + 1, file_of(14, 4, 3, [15, 15]))
        self.bad(PACKED + 1, file_of(14, 4, 2, [15, 15, 0]))
        self.bad(PACKED + 1, file_of(14, 4, 1, [15, 0, 0]))
        self.bad(PACKED, file_of(14, 4, 1, [15, 1]))
        self.bad(PACKED, file_of(14, 4, 1, [15, 8, 7]))
        self.good(file_of(14, 48, 48, [15] * 576))
        self.bad(PACKED + 288, file_of(14, 48, 48, [15] * 578))
        self.bad(PACKED + 287, file_of(14, 48, 48, [15] * 574))


class RunsTest(ReadingCase):
    def rows(self, *arguments, **more):
        return self.good(file_of(*arguments, **more)).characters[0][3]

    def test_runs(self):
        self.assertEqual(self.rows(5, 3, 2, [2, 3, 1]), ((0, 0, 1), (1, 1, 0)))
        self.assertEqual(self.rows(5, 3, 2, [2, 3, 1], first=1), ((1, 1, 0), (0, 0, 1)))
        self.assertEqual(self.rows(1, 3, 2, [2, 4]), ((0,) * 3,) * 2)

    def test_repetition_counts(self):
        self.assertEqual(self.rows(5, 2, 2, [15, 1, 1]), ((0, 1), (0, 1)))
        # Before any run of the row, and in the middle of a run.
        self.assertEqual(self.rows(5, 2, 2, [1, 15, 1]), ((0, 1), (0, 1)))
        self.assertEqual(self.rows(5, 3, 3, [1, 14, 2, 1, 1]), ((0, 1, 0),) * 3)
        self.assertEqual(self.rows(5, 3, 3, [1, 1, 14, 2, 1]), ((0, 1, 0),) * 3)
        # A run goes on behind the rows that repeat.
        self.assertEqual(self.rows(5, 2, 4, [15, 1, 3, 2]), ((0, 1), (0, 1), (1, 1), (0, 0)))

    def test_what_write_font_would_not_make(self):
        # A count of 1 with the nybble 14.
        self.assertEqual(self.rows(5, 2, 2, [14, 1, 1, 1]), ((0, 1), (0, 1)))
        # A count for a row of equal pixels.
        self.assertEqual(self.rows(5, 2, 3, [14, 2, 2]), ((0, 0),) * 3)
        self.assertEqual(self.rows(5, 2, 4, [2, 14, 2, 2]), ((0, 0),) + ((1, 1),) * 3)
        # Any way, borders without a pixel, rows written again.
        for way in range(13):
            self.good(file_of(way, 2, 2, [way + 1, 3 - way] if way < 4 else [4]))
        self.assertEqual(self.rows(5, 2, 3, [1, 1, 1, 1, 1, 1]), ((0, 1),) * 3)
        self.assertEqual(self.rows(5, 3, 3, [4, 1, 4]), ((0, 0, 0), (0, 1, 0), (0, 0, 0)))
        # Lengths in more nybbles than they need do not exist; in the way 0 each one has two.
        self.assertEqual(self.rows(0, 2, 1, [1, 0, 1, 0]), ((0, 1),))

    def test_a_second_count_for_one_row(self):
        for first in ([15], [14, 1], [14, 2]):
            for second in ([15], [14], [14, 1]):
                nybbles = first + second + [1, 1, 1]
                self.bad(PACKED + len(first) // 2, file_of(5, 3, 4, nybbles))
                nybbles = first + [1] + second + [1, 1]
                self.bad(PACKED + (len(first) + 1) // 2, file_of(5, 3, 4, nybbles))
        # In the next row, and behind rows that repeat, there may be another one.
        self.assertEqual(self.rows(5, 2, 4, [15, 1, 1, 15, 1, 1]), ((0, 1),) * 4)
        self.bad(PACKED + 2, file_of(5, 2, 4, [15, 1, 1, 15, 15, 1, 1]))

    def test_14_or_15_behind_14(self):
        for second in (14, 15):
            self.bad(PACKED, file_of(5, 3, 4, [14, second, 1, 1]))
            self.bad(PACKED + 1, file_of(5, 3, 4, [1, 14, second, 1]))

    def test_three_nybbles_0(self):
        self.bad(PACKED + 1, file_of(5, 48, 48, [0, 0, 0, 1, 0, 0, 0]))
        self.bad(PACKED + 1, file_of(5, 48, 48, [1, 0, 0, 0, 1, 0]))
        self.bad(PACKED + 2, file_of(5, 48, 48, [1, 1, 0, 0, 0, 1]))
        self.bad(PACKED + 1, file_of(5, 48, 48, [14, 0, 0, 0, 1]))
        self.bad(PACKED + 2, file_of(5, 48, 48, [14, 1, 0, 0, 0]))
        # A nybble 0 among the digits is none of them.
        self.assertEqual(len(self.rows(13, 48, 48, [0, 0, 9, 0, 2])), 48)

    def test_lengths_that_are_too_great(self):
        self.good(file_of(13, 3, 2, [6]))
        self.bad(PACKED, file_of(13, 3, 2, [7]))
        self.bad(PACKED, file_of(13, 3, 2, [1, 6]))
        self.bad(PACKED + 1, file_of(13, 3, 2, [1, 1, 5]))
        # The last nybble of the length is the bad one.
        self.bad(PACKED, file_of(2, 3, 2, [3, 4]))
        self.good(file_of(2, 3, 2, [3, 3]))
        self.bad(PACKED + 1, file_of(2, 3, 2, [1, 3, 3]))
        self.bad(PACKED + 1, file_of(13, 3, 2, [0, 1, 0]))
        self.bad(PACKED + 1, file_of(13, 3, 2, [1, 0, 15, 15]))
        self.bad(PACKED + 2, file_of(13, 3, 2, [0, 0, 15, 15, 15]))
        self.bad(PACKED + 2, file_of(13, 48, 48, [0, 0, 9, 0, 3]))

    def test_rows_that_repeat_are_not_counted(self):
        self.good(file_of(13, 3, 3, [15, 6]))
        self.bad(PACKED, file_of(13, 3, 3, [15, 7]))
        self.bad(PACKED + 1, file_of(13, 3, 3, [1, 15, 6]))
        self.good(file_of(13, 3, 3, [1, 15, 5]))
        self.good(file_of(13, 3, 3, [1, 14, 2, 2]))
        self.bad(PACKED + 1, file_of(13, 3, 3, [1, 14, 2, 3]))

    def test_counts_that_are_too_great(self):
        self.bad(PACKED, file_of(13, 3, 1, [15, 3]))
        self.bad(PACKED, file_of(13, 3, 1, [14, 1, 3]))
        self.bad(PACKED, file_of(13, 3, 3, [14, 3, 3]))
        self.good(file_of(13, 3, 3, [14, 2, 3]))
        self.bad(PACKED + 1, file_of(13, 3, 2, [2, 2, 15, 2]))
        self.bad(PACKED + 1, file_of(13, 3, 3, [3, 14, 2, 3]))
        self.good(file_of(13, 3, 3, [3, 14, 1, 3]))
        # The last nybble of the count is the bad one.
        self.bad(PACKED + 1, file_of(2, 3, 4, [14, 3, 1, 3, 0]))
        self.good(file_of(2, 3, 4, [14, 3, 0, 3, 0]))
        self.bad(PACKED + 1, file_of(13, 3, 3, [14, 0, 1, 0]))

    def test_too_few_packed_bytes(self):
        for nybbles in ([1], [1, 1], [15, 1], [14, 1], [1, 14], [0, 1], [0, 0], [14, 0], [14, 13], [5, 15]):
            data = file_of(3, 48, 48, nybbles + [1] * (len(nybbles) % 2))
            self.assertEqual(self.place(data), PACKED + 1, nybbles)
        self.bad(PACKED, file_of(3, 48, 48, []))
        self.assertEqual(self.place(file_of(3, 48, 48, [1, 1])[:PACKED + 1]), PACKED + 1)

    def test_too_many_packed_bytes(self):
        self.bad(PACKED + 1, file_of(13, 3, 2, [6, 0, 0, 0]))
        self.bad(PACKED + 1, file_of(13, 3, 2, [3, 3, 0, 0]))
        self.bad(PACKED + 1, file_of(13, 3, 2, [3, 3], size=2))
        self.bad(PACKED + 1, file_of(13, 3, 2, [3, 3], size=2304))

    def test_the_nybble_that_is_left_over(self):
        self.good(file_of(13, 3, 2, [6, 0]))
        for nybble in range(1, 16):
            self.bad(PACKED, file_of(13, 3, 2, [6, nybble]))
            self.bad(PACKED + 1, file_of(13, 3, 2, [3, 2, 1, nybble]))
        self.bad(PACKED, file_of(13, 3, 2, [6, 1, 0, 0]))

    def test_a_file_that_ends_in_its_packed_bytes(self):
        self.assertEqual(self.place(file_of(13, 3, 2, [2, 2, 2])[:PACKED + 1]), PACKED + 1)
        self.assertEqual(self.place(file_of(13, 3, 2, [3, 3], size=9)[:PACKED + 1]), PACKED + 1)
        self.assertEqual(self.place(file_of(13, 3, 2, [3, 7, 3], size=9)[:PACKED + 1]), PACKED)


class StepsTest(ReadingCase):
    def test_the_number_of_steps(self):
        self.good([0, 32] + [5, 128, 25, 0] * 32 + [0])
        self.bad(1, [0, 33] + [5, 128, 25, 0] * 33 + [0])
        self.bad(1, [0, 255])

    def test_right(self):
        self.good([0, 1, 128, 128, 25, 0, 0])
        self.bad(2, [0, 1, 129, 128, 25, 0, 0])
        self.bad(2, [0, 1, 255, 128, 25, 0, 0])

    def test_the_byte_with_the_action(self):
        for number in range(1, 9):
            self.good([0, 1, 5, 128 + number, 7, 0])
            self.good([0, 2, 5, number, 7, 5, 128, 25, 0, 0])
            self.bad(3, [0, 1, 5, number, 7, 0])
        for number in (9, 15, 16, 64, 127):
            self.bad(3, [0, 1, 5, 128 + number, 7, 0])
            self.bad(3, [0, 2, 5, number, 7, 5, 128, 25, 0, 0])
        self.bad(3, [0, 1, 5, 0, 25, 0, 0])
        self.good([0, 2, 5, 128, 25, 0, 5, 128, 25, 0, 0])
        self.bad(7, [0, 2, 5, 128, 25, 0, 5, 0, 25, 0, 0])

    def test_amounts(self):
        for high, low, amount in ((0, 0, -6400), (50, 0, 6400), (25, 0, 0), (0, 255, -6145)):
            self.assertEqual(self.good([0, 1, 5, 128, high, low, 0]).steps, ((5, ("kern", amount), True),))
        self.bad(5, [0, 1, 5, 128, 50, 1, 0])
        self.bad(5, [0, 1, 5, 128, 51, 0, 0])
        self.bad(5, [0, 1, 5, 128, 255, 255, 0])

    def test_codes_of_ligatures(self):
        self.good([0, 1, 5, 129, 127, 0])
        self.bad(4, [0, 1, 5, 129, 128, 0])
        self.bad(4, [0, 1, 5, 136, 255, 0])


class LabelsTest(ReadingCase):
    STEPS = [0, 2, 5, 0, 25, 0, 6, 128, 25, 0]

    def test_the_number_of_labels(self):
        self.good(self.STEPS + [32] + [byte for code in range(32) for byte in (code, 1)])
        self.bad(10, self.STEPS + [33] + [byte for code in range(33) for byte in (code, 1)])
        self.bad(2, [0, 0, 1, 5, 0])
        self.bad(2, [0, 0, 33])

    def test_codes(self):
        self.good(self.STEPS + [1, 128, 0])
        self.good(self.STEPS + [2, 127, 0, 128, 0])
        self.bad(11, self.STEPS + [1, 129, 0])
        self.bad(13, self.STEPS + [2, 5, 0, 5, 1])
        self.bad(13, self.STEPS + [2, 5, 0, 4, 1])
        self.bad(13, self.STEPS + [2, 128, 0, 128, 1])

    def test_indexes(self):
        self.good(self.STEPS + [1, 5, 1])
        self.bad(12, self.STEPS + [1, 5, 2])
        self.bad(12, self.STEPS + [1, 5, 255])


class EndlessTest(ReadingCase):
    ENDLESS = [0, 1, 5, 128 + 2, 5, 1, 9, 0]

    def test_the_byte_with_the_number_of_steps(self):
        self.assertEqual(self.place(self.ENDLESS), 1)
        data = write_font(Font((character(5, ((1, 0), (0, 1))), character(6, ((1,),))),
                               ((5, ligature("|=:", 5), True),), ((9, 0),)))
        self.assertEqual(self.place(data), len(data) - len(self.ENDLESS) + 1)

    def test_all_other_rules_come_first(self):
        self.assertEqual(self.place(self.ENDLESS + [0]), 8)
        self.assertEqual(self.place(self.ENDLESS[:-1] + [1]), 7)
        self.assertEqual(self.place(self.ENDLESS[:-1]), 7)

    def test_a_step_without_a_label(self):
        self.good([0, 1, 5, 128 + 2, 5, 0])


class MutationTest(ReadingCase):
    def test_one_byte_changed(self):
        random = Random(4)
        for font in examples()[2:14]:
            data = write_font(font)
            for at in range(len(data)):
                for byte in {0, 1, 255, 128, data[at] ^ 1, data[at] ^ 16, data[at] ^ 128, random.randrange(256)}:
                    self.place(data[:at] + [byte] + data[at + 1:])

    def test_random_changes(self):
        random = Random(9)
        kept = 0
        for _ in range(3000):
            data = write_font(random_font(random))
            for _ in range(random.randrange(1, 4)):
                at = random.randrange(len(data))
                change = random.randrange(4)
                if change == 0:
                    data[at] = random.randrange(256)
                elif change == 1:
                    data[at] ^= 1 << random.randrange(8)
                elif change == 2 and len(data) > 1:
                    del data[at]
                else:
                    data.insert(at, random.randrange(256))
            if self.place(data) is None:
                kept += 1
                self.assertEqual(parts(read_font(data)), parts_of(data)[:3])
                again = write_font(read_font(data))
                self.assertEqual(parts(read_font(again)), parts_of(data)[:3])
        self.assertGreater(kept, 20)

    def test_random_nybbles(self):
        random = Random(10)
        kept = 0
        for _ in range(6000):
            way, columns, count = random.randrange(15), random.randrange(1, 8), random.randrange(1, 8)
            few = random.choice(([1, 2, 3, 14, 15, 0], list(range(16)), [1, 2], [1, 1, 1, 15, 14, 2, 0]))
            nybbles = [random.choice(few) for _ in range(random.randrange(1, 20))]
            data = file_of(way, columns, count, nybbles, first=random.randrange(2))
            if random.random() < 0.2:
                data = data[:random.randrange(PACKED, len(data))]
            kept += self.place(data) is None
        self.assertGreater(kept, 20)

    def test_random_bytes(self):
        random = Random(12)
        for _ in range(3000):
            self.place([random.choice((0, 0, 1, 2, 5, 128, 255, random.randrange(256)))
                        for _ in range(random.randrange(30))])


if __name__ == "__main__":
    unittest.main()
