"""Points 55, 57 and 58: rules, ends of pairs, and endless pairs."""

import unittest
from itertools import product
from random import Random
from time import perf_counter

from fontwinding.errors import EndlessPair
from fontwinding.ligatures import EDGE, endless_pairs, pair_end, rule
from tests.lines import MEANINGS, doubling_table, end_slowly, ligature, table_of

KERN = ("kern", 5)


class RuleTest(unittest.TestCase):
    STEPS = ((1, ("kern", 1), False), (2, ("kern", 2), False), (1, ("kern", 3), True), (3, ("kern", 4), False),
             (128, ("kern", 5), True), (1, ligature("=:", 9), True))
    LABELS = ((10, 0), (11, 1), (12, 2), (13, 3), (14, 4), (15, 5), (128, 3))

    def test_edge(self):
        self.assertEqual(EDGE, 128)

    def test_rules(self):
        for left, right, wanted in (
                (10, 1, 1), (10, 2, 2), (10, 3, None), (10, 128, None), (11, 1, 3), (11, 2, 2), (12, 1, 3),
                (12, 2, None), (13, 3, 4), (13, 128, 5), (13, 1, None), (14, 3, None), (14, 128, 5), (128, 3, 4),
                (128, 128, 5), (128, 1, None), (9, 1, None), (0, 0, None), (127, 128, None)):
            self.assertEqual(rule(self.STEPS, self.LABELS, left, right), wanted and ("kern", wanted), (left, right))
        self.assertEqual(rule(self.STEPS, self.LABELS, 15, 1), ("ligature", 9, False, False, 0))

    def test_no_steps(self):
        self.assertIsNone(rule((), (), 1, 2))
        self.assertIsNone(rule(self.STEPS, (), 1, 2))


class EndTest(unittest.TestCase):
    def end(self, rules, left=1, right=2):
        steps, labels = table_of(rules)
        return pair_end(steps, labels, left, right)

    def test_without_ligatures(self):
        self.assertEqual(pair_end((), (), 1, 2), 2)
        self.assertEqual(self.end({(1, 3): KERN}), 2)
        self.assertEqual(self.end({(1, 2): KERN}), 2)
        self.assertEqual(self.end({(1, 128): KERN}, 1, 128), 128)
        self.assertEqual(self.end({(128, 128): KERN}, 128, 128), 128)

    def test_each_sign_alone(self):
        ends = {"=:": 3, "|=:": 3, "|=:>": 3, "=:|": 2, "=:|>": 2, "|=:|": 2, "|=:|>": 2, "|=:|>>": 2}
        for sign, wanted in ends.items():
            self.assertEqual(self.end({(1, 2): ligature(sign, 3)}), wanted, sign)

    def test_each_sign_with_the_pairs_that_it_makes(self):
        # The ends of (1, 3) and (3, 2) are 4 and 5, that of (4, 2) is 6.
        more = {(1, 3): ligature("=:", 4), (3, 2): ligature("=:", 5), (4, 2): ligature("=:", 6)}
        ends = {"=:": 3, "|=:": 4, "|=:>": 3, "=:|": 5, "=:|>": 2, "|=:|": 6, "|=:|>": 5, "|=:|>>": 2}
        for sign, wanted in ends.items():
            self.assertEqual(self.end({(1, 2): ligature(sign, 3), **more}), wanted, sign)

    def test_the_edge(self):
        self.assertEqual(self.end({(1, 128): ligature("=:", 3)}, 1, 128), 3)
        self.assertEqual(self.end({(128, 1): ligature("=:", 3)}, 128, 1), 3)
        self.assertEqual(self.end({(128, 128): ligature("|=:|", 3)}, 128, 128), 128)
        self.assertEqual(self.end({(128, 1): ligature("|=:", 3)}, 128, 1), 3)
        self.assertEqual(self.end({(1, 128): ligature("=:|", 3)}, 1, 128), 128)

    def test_pairs_that_are_endless_by_themselves(self):
        for sign in MEANINGS:
            for code, left, right in ((2, 1, 2), (1, 1, 2), (1, 1, 1), (3, 1, 2)):
                steps, labels = table_of({(left, right): ligature(sign, code)})
                endless = (sign in ("|=:", "|=:|") and code == right
                           or sign in ("=:|", "|=:|", "|=:|>") and code == left)
                if endless:
                    self.assertEqual(endless_pairs(steps, labels), [(left, right)], (sign, code))
                    with self.assertRaises(EndlessPair):
                        pair_end(steps, labels, left, right)
                else:
                    self.assertEqual(endless_pairs(steps, labels), [], (sign, code))
                    self.assertEqual(pair_end(steps, labels, left, right),
                                     end_slowly(lambda a, b: rule(steps, labels, a, b), left, right))

    def test_pairs_that_are_endless_through_others(self):
        steps, labels = table_of({(1, 2): ligature("=:|", 3), (3, 2): ligature("|=:", 4), (3, 4): ligature("=:|", 5),
                                  (5, 4): ligature("|=:|>", 3), (6, 2): ligature("|=:|", 7),
                                  (7, 2): ligature("=:|", 1), (8, 2): ligature("=:|>", 1), (9, 2): ligature("=:", 1)})
        self.assertEqual(endless_pairs(steps, labels), [(1, 2), (3, 2), (3, 4), (5, 4), (6, 2), (7, 2)])
        for left, right in endless_pairs(steps, labels):
            with self.assertRaises(EndlessPair):
                pair_end(steps, labels, left, right)
        self.assertEqual(pair_end(steps, labels, 8, 2), 2)
        self.assertEqual(pair_end(steps, labels, 9, 2), 1)

    def test_endless_pairs_with_the_edge(self):
        steps, labels = table_of({(128, 128): ligature("=:|", 3), (3, 128): ligature("=:|", 3)})
        self.assertEqual(endless_pairs(steps, labels), [(3, 128), (128, 128)])
        steps, labels = table_of({(128, 1): ligature("|=:", 1)})
        self.assertEqual(endless_pairs(steps, labels), [(128, 1)])

    def test_a_pair_that_needs_an_endless_one_later(self):
        # (1, 3) has the end 4, and (4, 2) is endless.
        steps, labels = table_of({(1, 2): ligature("|=:|", 3), (1, 3): ligature("=:", 4), (4, 2): ligature("=:|", 4)})
        self.assertEqual(endless_pairs(steps, labels), [(1, 2), (4, 2)])

    def test_a_pair_needed_twice_is_not_endless(self):
        # (1, 2) needs (1, 3) and then (3, 2), which needs (1, 3) again.
        steps, labels = table_of({(1, 2): ligature("|=:|", 3), (3, 2): KERN})
        self.assertEqual(endless_pairs(steps, labels), [])
        steps, labels = table_of({(1, 2): ligature("|=:|", 3), (1, 3): ligature("=:", 5), (5, 2): ligature("|=:", 6),
                                  (5, 6): ligature("=:|", 1), (1, 6): ligature("|=:", 3)})
        self.assertEqual(endless_pairs(steps, labels), [])
        self.assertEqual(pair_end(steps, labels, 1, 2), 5)


class RandomTest(unittest.TestCase):
    def test_against_the_setting(self):
        random = Random(11)
        endless_seen = 0
        for _ in range(300):
            codes = list(range(random.randrange(2, 6))) + [128] * random.randrange(2)
            rules = {}
            for pair in product(codes, codes):
                kind = random.randrange(3)
                if kind == 0:
                    rules[pair] = ligature(random.choice(list(MEANINGS)), random.choice([c for c in codes if c < 128]))
                elif kind == 1:
                    rules[pair] = KERN
            steps, labels = table_of(rules)
            endless = endless_pairs(steps, labels)
            self.assertEqual(endless, sorted(set(endless)))
            endless_seen += len(endless) > 0
            for left, right in product(codes, codes):
                wanted = end_slowly(lambda a, b: rules.get((a, b)), left, right)
                if (left, right) in endless:
                    self.assertIsNone(wanted)
                    with self.assertRaises(EndlessPair):
                        pair_end(steps, labels, left, right)
                else:
                    self.assertEqual(pair_end(steps, labels, left, right), wanted)
        self.assertGreater(endless_seen, 50)
        self.assertLess(endless_seen, 280)


class GreatTableTest(unittest.TestCase):
    def quickly(self, steps, labels):
        begun = perf_counter()
        endless = endless_pairs(steps, labels)
        ends = {}
        for left in [label[0] for label in labels]:
            for right in sorted({step[0] for step in steps}):
                if (left, right) not in endless:
                    ends[left, right] = pair_end(steps, labels, left, right)
        self.assertLess(perf_counter() - begun, 30)
        return endless, ends

    def test_ends_that_double(self):
        steps, labels = doubling_table()
        endless, ends = self.quickly(steps, labels)
        self.assertEqual(endless, [])
        # Each of these ends needs two ends of the level below.
        self.assertEqual([ends[50, k] for k in range(11)], [51] * 11)

    def test_long_chains(self):
        # (l, 100 + k) becomes (k, 100 + k), and this itself.
        steps = tuple((100 + k, ligature("=:|", k), k == 31) for k in range(32))
        labels = tuple((k, 0) for k in range(32))
        endless, _ = self.quickly(steps, labels)
        self.assertEqual(len(endless), 1024)
        steps = tuple((100 + k, ligature("|=:", 100 + k - 1), k == 31) for k in range(32))
        endless, ends = self.quickly(steps, labels)
        self.assertEqual(endless, [])
        self.assertEqual(set(ends.values()), {99})

    def test_all_pairs_of_codes(self):
        steps, labels = doubling_table()
        begun = perf_counter()
        for left in range(129):
            for right in range(129):
                self.assertIn(pair_end(steps, labels, left, right), (right, 51))
        self.assertLess(perf_counter() - begun, 30)


if __name__ == "__main__":
    unittest.main()
