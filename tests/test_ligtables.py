"""Point 59: the statement `ligtable`."""

import unittest

from fontwinding.errors import (
    DivisionByZero, EndlessPair, OutOfRange, TooMany, UnknownValue, WrongKind,
)
from fontwinding.machine import Machine
from fontwinding.settings import set_line
from tests.lines import MEANINGS, ligature
from tests.programs import OPEN, ProgramCase, run


def tables(text, machine=None):
    machine = run(text, machine)
    return machine.steps_made(), machine.labels_made()


class StepsTest(ProgramCase):
    def test_kerns(self):
        self.assertEqual(tables("ligtable 65: 66 kern 1 / 2;"), (((66, ("kern", 32), True),), ((65, 0),)))
        self.assertEqual(tables("ligtable 65: 66 kern -1, 67 kern 3;"),
                         (((66, ("kern", -64), False), (67, ("kern", 192), True)), ((65, 0),)))

    def test_each_sign(self):
        for sign in MEANINGS:
            steps, labels = tables(f"ligtable 65: 66 {sign} 67;")
            self.assertEqual(steps, ((66, ligature(sign, 67), True),), sign)
            self.assertEqual(labels, ((65, 0),))

    def test_the_kinds_of_values(self):
        (step,), (label,) = tables("ligtable 65: 66 =:| 67;")
        self.assertEqual([type(part) for part in step], [int, tuple, bool])
        self.assertEqual([type(part) for part in step[1]], [str, int, bool, bool, int])
        self.assertEqual([type(part) for part in label], [int, int])

    def test_codes(self):
        for code, wanted in (("0", 0), ("127", 127), ("60 + 5", 65), ("130 / 2", 65), ("edge", 128)):
            self.assertEqual(tables(f"ligtable {code}: {code} kern 1;"),
                             (((wanted, ("kern", 64), True),), ((wanted, 0),)))
        self.assertEqual(tables("a = 5; ligtable a: a + 1 =: a + 2;"), (((6, ligature("=:", 7), True),), ((5, 0),)))

    def test_wrong_codes(self):
        for code, error in (("128", OutOfRange), ("-1", OutOfRange), ("1 / 2", OutOfRange), ("(1, 1)", WrongKind),
                            ("true", WrongKind), ("identity", WrongKind), ("1 / 0", DivisionByZero)):
            for text in (f"ligtable {code}: 1 kern 1;", f"ligtable 1: {code} kern 1;", f"ligtable 1: 2 =: {code};",
                         f"ligtable 1: 2 =: 3, {code}: 4 kern 5;", f"ligtable 1: 2 =: 3, 4: 5: {code} |=:> 6;"):
                self.refuses(error, text)
        for text in ("ligtable a: 1 kern 1;", "ligtable 1: a kern 1;", "ligtable 1: 2 =: a;"):
            machine = self.fails(UnknownValue, text)
            self.assertEqual((machine.steps_made(), machine.labels_made()), ((), ()))

    def test_amounts(self):
        for amount, wanted in (("100", 6400), ("-100", -6400), ("0", 0), ("1 / 128", 1), ("-1 / 128", 0),
                               ("100.007", 6400), ("-100 - 1 / 128", -6400), ("-100.007", -6400)):
            self.assertEqual(tables(f"ligtable 1: 2 kern {amount};")[0][0][1], ("kern", wanted), amount)
        for amount in ("100.008", "100 + 1 / 128", "-100.008", "101", "-1000000"):
            self.refuses(OutOfRange, f"ligtable 1: 2 kern {amount};")
        for amount in ("(1, 1)", "true", "identity"):
            self.refuses(WrongKind, f"ligtable 1: 2 kern {amount};")
        self.fails(UnknownValue, "ligtable 1: 2 kern a;")

    def test_order(self):
        self.fails(OutOfRange, "ligtable 128: 1 / 0 kern true;")
        self.fails(DivisionByZero, "ligtable 1: 1 / 0 kern true;")
        self.fails(WrongKind, "ligtable 1: 2 kern true, 1 / 0 kern 1;")
        self.fails(UnknownValue, "ligtable 1: 2 =: a, true: 1 / 0 kern 1;")
        self.fails(OutOfRange, "ligtable 1: 2 =: 200, 3 kern 200;")
        machine = self.fails(OutOfRange, "ligtable 1: 2 =: 200, a: b kern c;")
        self.assertEqual(machine.equations.unknowns, 0)

    def test_in_a_character_and_outside(self):
        self.assertEqual(tables(OPEN + "ligtable 1: 2 kern 1; endchar; ligtable 3: 4 kern 1;"),
                         (((2, ("kern", 64), True), (4, ("kern", 64), True)), ((1, 0), (3, 1))))


class LabelsTest(ProgramCase):
    def test_labels_have_the_index_of_the_next_step(self):
        steps, labels = tables("ligtable 5: 1 kern 1, 3: 4: 2 kern 1, 3 kern 1, edge: 4 kern 1;")
        self.assertEqual([step[0] for step in steps], [1, 2, 3, 4])
        self.assertEqual([step[2] for step in steps], [False, False, False, True])
        self.assertEqual(labels, ((3, 1), (4, 1), (5, 0), (128, 3)))

    def test_statements_follow_each_other(self):
        steps, labels = tables("ligtable 5: 1 kern 1, 2 kern 1; ligtable 4: 3 kern 1, 6: 4 kern 1; ligtable 7 kern 1;")
        self.assertEqual([step[:1] + step[2:] for step in steps],
                         [(1, False), (2, True), (3, False), (4, True), (7, True)])
        self.assertEqual(labels, ((4, 2), (5, 0), (6, 3)))

    def test_labels_that_are_replaced(self):
        self.assertEqual(tables("ligtable 5: 1 kern 1; ligtable 5: 2 kern 1;")[1], ((5, 1),))
        self.assertEqual(tables("ligtable 5: 1 kern 1, 5: 2 kern 1;")[1], ((5, 1),))
        self.assertEqual(tables("ligtable 5: 5: 6: 1 kern 1; ligtable edge: 6: 2 kern 1;")[1],
                         ((5, 0), (6, 1), (128, 1)))
        self.assertEqual(tables("ligtable edge: 1 kern 1; ligtable edge: 2 kern 1;")[1], ((128, 1),))

    def test_without_labels(self):
        self.assertEqual(tables("ligtable 1 kern 1;"), (((1, ("kern", 64), True),), ()))

    def test_lines(self):
        machine = run("ligtable 102: 105 =: 28, 102 =: 27; ligtable 27: 105 =: 30; ligtable edge: 65 kern -1 / 64;")
        self.assertEqual(set_line(machine.steps_made(), machine.labels_made(), [65, 102, 102, 105, 102, 105]),
                         ([65, 30, 28], [-1, 0, 0, 0]))


class LimitTest(ProgramCase):
    def test_thirty_two_steps(self):
        steps = ", ".join(f"{k} kern 1" for k in range(32))
        machine = run(f"ligtable 1: {steps};")
        self.assertEqual(len(machine.steps_made()), 32)
        self.refuses(TooMany, "ligtable 5 kern 1;", machine)
        self.refuses(TooMany, f"ligtable 1: {steps}, 33 kern 1;")
        machine = run(f"ligtable {steps[:-len(', 31 kern 1')]};")
        self.refuses(TooMany, "ligtable 3: 4 kern 1, 5 kern 1;", machine)
        run("ligtable 3: 4 kern 1;", machine)
        self.assertEqual(machine.labels_made(), ((3, 31),))

    def test_thirty_two_labels(self):
        labels = "".join(f"{k}: " for k in range(32))
        machine = run(f"ligtable {labels} 5 kern 1;")
        self.assertEqual(len(machine.labels_made()), 32)
        self.refuses(TooMany, "ligtable 32: 5 kern 1;", machine)
        self.refuses(TooMany, "ligtable 3: 4: edge: 5 kern 1;", machine)
        self.refuses(TooMany, f"ligtable {labels} 100: 5 kern 1;")
        run("ligtable 31: 0: 6 kern 1;", machine)
        self.assertEqual(len(machine.labels_made()), 32)
        self.assertEqual((machine.labels_made()[0], machine.labels_made()[31]), ((0, 1), (31, 1)))

    def test_the_limits_come_behind_the_values_and_before_endless_pairs(self):
        steps = ", ".join(f"{k} kern 1" for k in range(32))
        machine = run(f"ligtable 1: {steps};")
        self.refuses(OutOfRange, "ligtable 5 kern 1, 200 kern 1;", machine)
        self.refuses(TooMany, "ligtable 9: 9 |=: 9;", machine)
        labels = "".join(f"{k}: " for k in range(32))
        self.refuses(TooMany, f"ligtable {labels} 100: 5 |=: 5;")


class EndlessTest(ProgramCase):
    def test_endless_pairs(self):
        for text in ("ligtable 1: 2 |=: 2;", "ligtable 1: 2 =:| 1;", "ligtable 1: 2 |=:| 2;", "ligtable 1: 2 |=:|> 1;",
                     "ligtable edge: edge |=:| 1, 1: edge =:| 1;", "ligtable 1: 2 |=: 3, 3 |=: 2;",
                     "ligtable edge: 1 |=: 1;"):
            self.refuses(EndlessPair, text)

    def test_pairs_that_are_endless_together_with_earlier_ones(self):
        machine = run("ligtable 1: 2 =:| 3; ligtable 5: 6 kern 1;")
        self.refuses(EndlessPair, "ligtable 3: 2 =:| 1;", machine)
        self.refuses(EndlessPair, "ligtable 7: 8 kern 1, 3: 2 =:| 1;", machine)
        self.assertEqual(len(machine.steps_made()), 2)
        # If the earlier label is replaced, nothing is endless.
        run("ligtable 3: 2 =:| 1, 1: 4 kern 1;", machine)
        self.assertEqual(machine.labels_made(), ((1, 3), (3, 2), (5, 1)))

    def test_nothing_is_added(self):
        machine = Machine()
        for text in ("ligtable 1: 2 kern 1, 3: 4 |=: 4;", "ligtable 1: 2 kern 1, 3: 4 kern 101;",
                     "ligtable 1: 2 kern 1, 3: 200 kern 1;"):
            with self.assertRaises(ValueError):
                run(text, machine)
            self.assertEqual((machine.steps_made(), machine.labels_made()), ((), ()))

    def test_a_great_table(self):
        steps = ", ".join(f"{k} |=:| {k + 32}" for k in range(32))
        labels = "".join(f"{64 + k}: " for k in range(32))
        machine = run(f"ligtable {labels} {steps};")
        self.assertEqual(len(machine.steps_made()), 32)


if __name__ == "__main__":
    unittest.main()
