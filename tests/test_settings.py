"""Points 56 and 58: lines that are set."""

import unittest
from itertools import product
from random import Random
from time import perf_counter

from fontwinding.errors import EndlessPair, TooLong
from fontwinding.ligatures import endless_pairs
from fontwinding.settings import set_line
from tests.lines import MEANINGS, doubling_table, ligature, set_slowly, table_of


class SettingCase(unittest.TestCase):
    def sets(self, rules, codes, glyphs, kerns):
        steps, labels = table_of(rules)
        self.assertEqual(set_line(steps, labels, codes), (glyphs, kerns))
        self.assertEqual(set_slowly(lambda a, b: rules.get((a, b)), codes), (glyphs, kerns))


class PlainTest(SettingCase):
    def test_without_rules(self):
        self.sets({}, [], [], [0])
        self.sets({}, [5], [5], [0, 0])
        self.sets({}, [1, 1, 0, 127], [1, 1, 0, 127], [0] * 5)

    def test_example_of_the_interface(self):
        steps = ((66, ("ligature", 67, False, False, 0), True),)
        self.assertEqual(set_line(steps, ((65, 0),), [65, 66, 65]), ([67, 65], [0, 0, 0]))

    def test_the_kinds_of_what_is_returned(self):
        steps, labels = table_of({(1, 2): ("kern", 5)})
        codes = [1, 2, 1]
        told = set_line(steps, labels, codes)
        self.assertEqual([type(told)] + [type(part) for part in told], [tuple, list, list])
        told[0].clear()
        told[1].clear()
        self.assertEqual(codes, [1, 2, 1])
        self.assertEqual(set_line(steps, labels, codes), ([1, 2, 1], [0, 5, 0, 0]))


class KernTest(SettingCase):
    def test_between_glyphs(self):
        self.sets({(1, 2): ("kern", 5), (2, 1): ("kern", -7)}, [1, 2, 1, 2, 2], [1, 2, 1, 2, 2], [0, 5, -7, 5, 0, 0])

    def test_at_the_edges(self):
        self.sets({(128, 1): ("kern", 5), (1, 128): ("kern", -6400)}, [1], [1], [5, -6400])
        self.sets({(128, 1): ("kern", 5), (1, 128): ("kern", 6400), (1, 1): ("kern", 3)}, [1, 1], [1, 1], [5, 3, 6400])

    def test_with_no_glyph(self):
        self.sets({(128, 128): ("kern", 5)}, [], [], [5])

    def test_only_the_first_rule_of_a_label_counts(self):
        steps = ((2, ("kern", 1), False), (2, ("kern", 2), False), (3, ("kern", 4), True), (3, ("kern", 8), True))
        self.assertEqual(set_line(steps, ((1, 0), (2, 1)), [1, 2, 3, 1, 3, 2, 2]),
                         ([1, 2, 3, 1, 3, 2, 2], [0, 1, 4, 0, 4, 0, 2, 0]))

    def test_kerns_beside_ligatures(self):
        # The kern before the first of the three stays where it is.
        self.sets({(9, 1): ("kern", 5), (1, 2): ligature("=:", 3)}, [9, 1, 2, 8], [9, 3, 8], [0, 5, 0, 0])
        self.sets({(9, 1): ("kern", 5), (1, 2): ligature("=:|", 3)}, [9, 1, 2, 8], [9, 3, 2, 8], [0, 5, 0, 0, 0])
        self.sets({(9, 1): ("kern", 5), (1, 2): ligature("|=:|>>", 3), (2, 8): ("kern", 7)}, [9, 1, 2, 8],
                  [9, 1, 3, 2, 8], [0, 5, 0, 0, 7, 0])
        # A kern before what a ligature has made.
        self.sets({(1, 2): ligature("=:", 3), (3, 8): ("kern", 7)}, [9, 1, 2, 8], [9, 3, 8], [0, 0, 7, 0])
        self.sets({(1, 2): ligature("|=:|", 3), (1, 3): ("kern", 4), (3, 2): ("kern", 6)}, [1, 2],
                  [1, 3, 2], [0, 4, 6, 0])


class SignTest(SettingCase):
    def test_each_sign(self):
        # After each sign another rule shows where the place is.
        more = {(1, 3): ("kern", 1), (3, 2): ("kern", 2), (2, 5): ("kern", 4), (3, 5): ("kern", 8)}
        for sign, glyphs, kerns in (
                ("=:", [3, 5], [0, 8, 0]), ("|=:", [1, 3, 5], [0, 1, 8, 0]), ("|=:>", [1, 3, 5], [0, 0, 8, 0]),
                ("=:|", [3, 2, 5], [0, 2, 4, 0]), ("=:|>", [3, 2, 5], [0, 0, 4, 0]),
                ("|=:|", [1, 3, 2, 5], [0, 1, 2, 4, 0]), ("|=:|>", [1, 3, 2, 5], [0, 0, 2, 4, 0]),
                ("|=:|>>", [1, 3, 2, 5], [0, 0, 0, 4, 0])):
            self.sets({(1, 2): ligature(sign, 3), **more}, [1, 2, 5], glyphs, kerns)

    def test_each_sign_at_the_beginning(self):
        more = {(128, 3): ("kern", 1), (3, 2): ("kern", 2), (2, 128): ("kern", 4), (3, 128): ("kern", 8)}
        for sign, glyphs, kerns in (
                ("=:", [3], [0, 8]), ("|=:", [3], [1, 8]), ("|=:>", [3], [0, 8]), ("=:|", [3, 2], [0, 2, 4]),
                ("=:|>", [3, 2], [0, 0, 4]), ("|=:|", [3, 2], [1, 2, 4]), ("|=:|>", [3, 2], [0, 2, 4]),
                ("|=:|>>", [3, 2], [0, 0, 4])):
            self.sets({(128, 2): ligature(sign, 3), **more}, [2], glyphs, kerns)

    def test_each_sign_at_the_end(self):
        more = {(128, 1): ("kern", 16), (1, 3): ("kern", 1), (3, 128): ("kern", 2), (128, 3): ("kern", 32)}
        for sign, glyphs, kerns in (
                ("=:", [3], [16, 0]), ("|=:", [1, 3], [16, 1, 0]), ("|=:>", [1, 3], [16, 0, 0]),
                ("=:|", [3], [16, 2]), ("=:|>", [3], [16, 0]), ("|=:|", [1, 3], [16, 1, 2]),
                ("|=:|>", [1, 3], [16, 0, 2]), ("|=:|>>", [1, 3], [16, 0, 0])):
            self.sets({(1, 128): ligature(sign, 3), **more}, [1], glyphs, kerns)

    def test_an_empty_line(self):
        for sign, kerns in (("=:", [0, 0]), ("|=:", [32, 0]), ("|=:>", [0, 0]), ("=:|", [0, 2]), ("=:|>", [0, 0]),
                            ("|=:|", [32, 2]), ("|=:|>", [0, 2]), ("|=:|>>", [0, 0])):
            self.sets({(128, 128): ligature(sign, 3), (128, 3): ("kern", 32), (3, 128): ("kern", 2)}, [], [3], kerns)

    def test_chains_of_ligatures(self):
        rules = {(1, 2): ligature("=:", 3), (3, 4): ligature("=:", 5), (5, 128): ligature("=:|", 6)}
        self.sets(rules, [1, 2, 4], [6], [0, 0])
        self.sets(rules, [1, 2, 1, 2, 4], [3, 6], [0, 0, 0])
        self.sets(rules, [1, 1, 2], [1, 3], [0, 0, 0])


class LengthTest(SettingCase):
    def test_398_and_399_codes(self):
        steps, labels = table_of({(1, 2): ligature("=:", 3)})
        self.assertEqual(set_line(steps, labels, [1] * 398), ([1] * 398, [0] * 399))
        self.assertEqual(set_line(steps, labels, [1, 2] * 199), ([3] * 199, [0] * 200))
        for codes in ([1] * 399, [1, 2] * 200, [1] * 1000):
            with self.assertRaises(TooLong):
                set_line(steps, labels, codes)
        with self.assertRaises(TooLong):
            set_line((), (), [1] * 399)
        # The first rule would make the row short enough, but it is too long at the beginning.
        steps, labels = table_of({(128, 1): ligature("=:", 3)})
        self.assertEqual(len(set_line(steps, labels, [1] * 398)[0]), 398)
        with self.assertRaises(TooLong):
            set_line(steps, labels, [1] * 399)

    def test_lines_that_grow(self):
        for sign in ("|=:|", "|=:|>", "|=:|>>"):
            steps, labels = table_of({(1, 2): ligature(sign, 3)})
            self.assertEqual(set_line(steps, labels, [1, 2] * 132 + [1] * 2)[0], [1, 3, 2] * 132 + [1] * 2)
            self.assertEqual(set_line(steps, labels, [1] * 395 + [1, 2])[0], [1] * 395 + [1, 3, 2])
            with self.assertRaises(TooLong):
                set_line(steps, labels, [1] * 396 + [1, 2])
            with self.assertRaises(TooLong):
                set_line(steps, labels, [1, 2] * 132 + [1] * 3)

    def test_a_row_that_is_too_long_for_a_while(self):
        rules = {(1, 2): ligature("|=:|", 3), (1, 3): ligature("=:", 4), (4, 2): ligature("=:", 5)}
        self.sets(rules, [1] * 395 + [1, 2], [1] * 395 + [5], [0] * 397)
        steps, labels = table_of(rules)
        with self.assertRaises(TooLong):
            set_line(steps, labels, [1] * 396 + [1, 2])
        # A row that gets shorter first may grow afterwards.
        rules[(6, 6)] = ligature("=:", 7)
        self.sets(rules, [6, 6] + [1] * 394 + [1, 2], [7] + [1] * 394 + [5], [0] * 397)

    def test_insertion_and_removal_are_one_rule(self):
        for sign in ("|=:", "|=:>", "=:|", "=:|>"):
            steps, labels = table_of({(1, 2): ligature(sign, 3)})
            self.assertEqual(len(set_line(steps, labels, [1, 2] * 199)[0]), 398)

    def test_great_work(self):
        steps, labels = doubling_table()
        begun = perf_counter()
        self.assertEqual(set_line(steps, labels, [50, 10] * 190)[0], [51] * 190)
        self.assertLess(perf_counter() - begun, 60)


class EndlessTest(unittest.TestCase):
    def test_before_anything_else(self):
        steps, labels = table_of({(1, 2): ligature("|=:|", 2)})
        for codes in ([], [5], [1, 2], [1] * 399):
            with self.assertRaises(EndlessPair):
                set_line(steps, labels, codes)


class RandomTest(unittest.TestCase):
    def test_against_the_document(self):
        random = Random(3)
        compared = 0
        too_long = 0
        while compared < 400:
            codes = list(range(random.randrange(2, 6)))
            rules = {}
            for pair in product(codes + [128], codes + [128]):
                kind = random.randrange(4)
                if kind == 0:
                    rules[pair] = ligature(random.choice(list(MEANINGS)), random.choice(codes))
                elif kind == 1:
                    rules[pair] = ("kern", random.randrange(-6400, 6401))
            steps, labels = table_of(rules)
            if endless_pairs(steps, labels):
                continue
            compared += 1
            line = [random.choice(codes) for _ in range(random.choice((0, 1, 2, 5, 30, 150, 390)))]
            try:
                wanted = set_slowly(lambda a, b: rules.get((a, b)), line)
            except OverflowError:
                too_long += 1
                with self.assertRaises(TooLong):
                    set_line(steps, labels, line)
            else:
                self.assertEqual(set_line(steps, labels, line), wanted)
        self.assertGreater(too_long, 5)


if __name__ == "__main__":
    unittest.main()
