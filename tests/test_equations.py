"""Points 8, 9 and 10: unknowns and equations."""

import unittest
from fractions import Fraction
from itertools import permutations
from random import Random

from fontwinding.equations import Equations
from fontwinding.errors import Contradiction, OutOfRange, TooGreat, TooMany
from fontwinding.forms import known_form, unknown_form
from tests.support import LIMIT, is_form, number
from tests.test_forms import form


def equations_of(count):
    equations = Equations()
    for _ in range(count):
        equations.new_unknown()
    return equations


def state(equations):
    return [(equations.kind(u), equations.form(u)) for u in range(equations.unknowns)]


class UnknownsTest(unittest.TestCase):
    def test_no_unknowns_at_first(self):
        self.assertEqual(Equations().unknowns, 0)

    def test_unknowns_are_numbered_as_they_are_created(self):
        equations = Equations()
        self.assertEqual([equations.new_unknown() for _ in range(80)], list(range(80)))
        self.assertEqual(equations.unknowns, 80)

    def test_the_81st_unknown(self):
        equations = equations_of(80)
        before = state(equations)
        for _ in range(2):
            with self.assertRaises(TooMany):
                equations.new_unknown()
        self.assertEqual(equations.unknowns, 80)
        self.assertEqual(state(equations), before)

    def test_known_unknowns_count_too(self):
        equations = equations_of(80)
        equations.equate(unknown_form(79), known_form((1, 1)))
        with self.assertRaises(TooMany):
            equations.new_unknown()

    def test_a_new_unknown_is_free_and_has_the_form_of_itself(self):
        equations = equations_of(3)
        for u in range(3):
            self.assertEqual(equations.kind(u), "free")
            self.assertEqual(equations.form(u), ((0, 1), ((u, (1, 1)),)))

    def test_kind_and_form_of_no_unknown(self):
        equations = equations_of(2)
        for u in (-1, -2, 2, 3, 80, 10 ** 30, -10 ** 30, 10 ** 5000, -10 ** 5000):
            with self.assertRaises(OutOfRange):
                equations.kind(u)
            with self.assertRaises(OutOfRange):
                equations.form(u)
        with self.assertRaises(OutOfRange):
            Equations().kind(0)
        with self.assertRaises(OutOfRange):
            Equations().form(0)
        self.assertEqual(state(equations), [("free", unknown_form(0)), ("free", unknown_form(1))])

    def test_objects_are_apart(self):
        one, other = equations_of(2), equations_of(2)
        one.equate(unknown_form(0), known_form((1, 1)))
        self.assertEqual(other.kind(0), "free")
        one.new_unknown()
        self.assertEqual(other.unknowns, 2)


class EquateTest(unittest.TestCase):
    def test_example(self):
        equations = equations_of(2)
        told = equations.equate(((0, 1), ((0, (1, 1)), (1, (1, 1)))), ((3, 1), ()))
        self.assertIs(told, True)
        self.assertEqual(equations.form(1), ((3, 1), ((0, (-1, 1)),)))
        self.assertEqual(equations.kind(0), "free")
        self.assertEqual(equations.kind(1), "dependent")

    def test_the_greatest_unknown_stops_being_free(self):
        equations = equations_of(4)
        self.assertIs(equations.equate(form(1, {0: 2, 2: 4}), form(0, {1: 6})), True)
        self.assertEqual([equations.kind(u) for u in range(4)], ["free", "free", "dependent", "free"])
        self.assertEqual(equations.form(2), form(Fraction(-1, 4), {0: Fraction(-1, 2), 1: Fraction(3, 2)}))

    def test_the_greatest_unknown_of_the_reduced_difference(self):
        equations = equations_of(4)
        equations.equate(unknown_form(3), form(1, {0: 1}))
        # 3 is not free any more, so this equation is one between 0 and 1.
        equations.equate(unknown_form(3), form(0, {1: 2}))
        self.assertEqual(equations.kind(1), "dependent")
        self.assertEqual(equations.form(1), form(Fraction(1, 2), {0: Fraction(1, 2)}))
        self.assertEqual(equations.form(3), form(1, {0: 1}))
        self.assertEqual(equations.kind(0), "free")

    def test_a_known_unknown(self):
        equations = equations_of(1)
        self.assertIs(equations.equate(form(0, {0: 2}), form(3)), True)
        self.assertEqual(state(equations), [("known", ((3, 2), ()))])

    def test_dependent_forms_are_replaced(self):
        equations = equations_of(4)
        equations.equate(unknown_form(2), form(1, {0: 1, 1: 1}))
        equations.equate(unknown_form(3), form(0, {1: 2}))
        equations.equate(unknown_form(1), form(5, {0: -1}))
        self.assertEqual(state(equations), [
            ("free", unknown_form(0)), ("dependent", form(5, {0: -1})),
            ("known", form(6)), ("dependent", form(10, {0: -2}))])
        equations.equate(unknown_form(0), form(1))
        self.assertEqual(state(equations), [
            ("known", form(1)), ("known", form(4)), ("known", form(6)), ("known", form(8))])

    def test_redundant(self):
        equations = equations_of(3)
        self.assertIs(equations.equate(form(0), form(0)), False)
        self.assertIs(equations.equate(unknown_form(1), unknown_form(1)), False)
        equations.equate(unknown_form(2), form(1, {0: 1}))
        before = state(equations)
        self.assertIs(equations.equate(form(-2, {0: -2}), form(0, {2: -2})), False)
        self.assertEqual(state(equations), before)

    def test_contradiction_changes_nothing(self):
        equations = equations_of(3)
        with self.assertRaises(Contradiction):
            equations.equate(form(0), form(1))
        equations.equate(unknown_form(2), form(1, {0: 1}))
        before = state(equations)
        with self.assertRaises(Contradiction):
            equations.equate(unknown_form(2), form(2, {0: 1}))
        with self.assertRaises(Contradiction):
            equations.equate(unknown_form(1), form(Fraction(1, LIMIT), {1: 1}))
        self.assertEqual(state(equations), before)
        self.assertIs(equations.equate(unknown_form(1), form(2)), True)


class ReduceTest(unittest.TestCase):
    def test_reduce(self):
        equations = equations_of(4)
        equations.equate(unknown_form(2), form(1, {0: 3}))
        equations.equate(unknown_form(3), form(Fraction(7, 2)))
        before = state(equations)
        self.assertEqual(equations.reduce(form(10, {0: 1, 1: 5, 2: 2, 3: -2})), form(5, {0: 7, 1: 5}))
        self.assertEqual(equations.reduce(form(0, {0: -6, 2: 2})), form(2))
        self.assertEqual(equations.reduce(form(4)), form(4))
        self.assertEqual(equations.reduce(unknown_form(1)), unknown_form(1))
        self.assertEqual(state(equations), before)

    def with_values(self, *values):
        equations = equations_of(len(values))
        for u, number_of_u in enumerate(values):
            equations.equate(unknown_form(u), form(number_of_u))
        return equations

    def test_begins_with_the_constant_and_adds_in_ascending_order(self):
        equations = self.with_values(LIMIT, -LIMIT)
        self.assertEqual(equations.reduce(form(-1, {0: 1, 1: 1})), form(-1))
        with self.assertRaises(TooGreat):
            equations.reduce(form(1, {0: 1, 1: 1}))
        equations = self.with_values(-LIMIT, LIMIT)
        self.assertEqual(equations.reduce(form(1, {0: 1, 1: 1})), form(1))
        with self.assertRaises(TooGreat):
            equations.reduce(form(-1, {0: 1, 1: 1}))

    def test_each_form_is_scaled_before_it_is_added(self):
        equations = self.with_values(LIMIT)
        with self.assertRaises(TooGreat):
            equations.reduce(form(-LIMIT, {0: 2}))
        self.assertEqual(equations.reduce(form(-LIMIT, {0: 1})), form(0))

    def test_too_great_coefficient(self):
        equations = equations_of(2)
        equations.equate(unknown_form(1), form(0, {0: LIMIT}))
        self.assertEqual(equations.reduce(form(0, {0: -1, 1: 1})), form(0, {0: LIMIT - 1}))
        with self.assertRaises(TooGreat):
            equations.reduce(form(0, {0: 1, 1: 1}))


class TooGreatTest(unittest.TestCase):
    def refuse(self, equations, left, right):
        before = state(equations)
        with self.assertRaises(TooGreat):
            equations.equate(left, right)
        self.assertEqual(state(equations), before)

    def test_the_difference_is_made_before_it_is_reduced(self):
        equations = equations_of(2)
        equations.equate(unknown_form(0), form(-1))
        # Reduced one by one, both sides would have the constant 10 ** 18 - 1.
        self.refuse(equations, form(LIMIT, {0: 1}), form(-1))
        self.refuse(equations, form(0, {1: LIMIT}), form(0, {1: -1}))
        # The difference is small, while the reduced left side is not within the limits.
        equations.equate(unknown_form(1), form(LIMIT))
        self.assertIs(equations.equate(form(1, {1: 1}), form(1, {1: 1})), False)

    def test_left_minus_right(self):
        equations = equations_of(1)
        self.assertIs(equations.equate(form(-LIMIT + 1, {0: 1}), form(1)), True)
        self.assertEqual(equations.form(0), form(LIMIT))

    def test_reducing(self):
        equations = equations_of(2)
        equations.equate(unknown_form(0), form(LIMIT))
        self.refuse(equations, form(1, {0: 1, 1: 1}), form(0))
        self.refuse(equations, form(0, {0: 2, 1: 1}), form(LIMIT))

    def test_the_new_form(self):
        equations = equations_of(2)
        self.refuse(equations, form(LIMIT, {1: Fraction(1, 2)}), form(0))
        self.refuse(equations, form(0, {0: Fraction(1, LIMIT), 1: 2}), form(0))
        self.assertIs(equations.equate(form(LIMIT, {1: LIMIT}), form(0)), True)
        self.assertEqual(equations.form(1), form(-1))

    def test_replacing(self):
        equations = equations_of(4)
        equations.equate(unknown_form(2), form(0, {0: 1, 1: 1}))
        equations.equate(unknown_form(3), form(0, {1: LIMIT}))
        # The form of 2 could be replaced, that of 3 could not.
        self.refuse(equations, unknown_form(1), form(2))
        self.assertIs(equations.equate(unknown_form(1), form(1)), True)
        self.assertEqual(equations.form(2), form(1, {0: 1}))
        self.assertEqual(equations.form(3), form(LIMIT))

    def test_too_great_comes_before_contradiction(self):
        equations = equations_of(1)
        equations.equate(unknown_form(0), form(0))
        self.refuse(equations, form(LIMIT), form(-LIMIT))


def echelon(rows):
    """The reduced rows (over fractions) with the greatest unknown leading; the last item is the constant."""
    rows = [list(map(Fraction, row)) for row in rows]
    done = []
    for column in reversed(range(len(rows[0]) - 1)):
        pivot = next((row for row in rows if row[column]), None)
        if pivot is None:
            continue
        rows.remove(pivot)
        pivot = [item / pivot[column] for item in pivot]
        rows = [[a - row[column] * b for a, b in zip(row, pivot)] for row in rows]
        done = [(at, [a - row[column] * b for a, b in zip(row, pivot)]) for at, row in done]
        done.append((column, pivot))
    return dict(done)


def forms_from(rows, count):
    """The forms that point 9 gives, from the reduced rows."""
    leading = echelon(rows)
    forms = []
    for u in range(count):
        if u in leading:
            row = leading[u]
            forms.append(form(-row[-1], {v: -row[v] for v in range(count) if v != u and row[v]}))
        else:
            forms.append(unknown_form(u))
    return forms


class OrderTest(unittest.TestCase):
    """Point 10: the order of the equations does not matter."""

    def run_rows(self, rows, count):
        equations = equations_of(count)
        for *factors, constant in rows:
            left = form(constant, {u: f for u, f in enumerate(factors) if f > 0})
            right = form(0, {u: -f for u, f in enumerate(factors) if f < 0})
            equations.equate(left, right)
        return equations

    def test_all_orders_of_four_equations(self):
        rows = [(1, 1, 0, 0, 0, -3), (0, 1, -1, 0, 0, 2), (0, 0, 2, 1, 1, -1), (1, 0, 0, 0, -1, 0)]
        wanted = state(self.run_rows(rows, 5))
        self.assertEqual([kind for kind, _ in wanted], ["free"] + 4 * ["dependent"])
        for order in permutations(rows):
            self.assertEqual(state(self.run_rows(order, 5)), wanted)

    def test_any_equations_in_several_orders(self):
        chance = Random(10)
        for _ in range(80):
            count = chance.randint(1, 7)
            solution = [Fraction(chance.randint(-9, 9), chance.randint(1, 3)) for _ in range(count)]
            rows = []
            for _ in range(chance.randint(1, 8)):
                factors = [chance.randint(-2, 2) * chance.randint(0, 1) for _ in range(count)]
                rows.append((*factors, -sum(f * x for f, x in zip(factors, solution))))
            wanted = forms_from(rows, count)
            for _ in range(4):
                chance.shuffle(rows)
                equations = self.run_rows(rows, count)
                forms = [equations.form(u) for u in range(count)]
                self.assertEqual(forms, wanted)
                self.check_kinds(equations)

    def check_kinds(self, equations):
        kinds = [equations.kind(u) for u in range(equations.unknowns)]
        for u, kind in enumerate(kinds):
            told = equations.form(u)
            self.assertTrue(is_form(told))
            self.assertEqual(kind == "known", told[1] == ())
            self.assertEqual(kind == "free", told == unknown_form(u))
            self.assertTrue(all(kinds[v] == "free" for v, _ in told[1]))

    def test_sums_and_multiples_of_equations_lead_to_the_same_forms(self):
        rows = [(1, 2, 0, -5), (0, 1, 1, -1)]
        other = [(2, 6, 2, -12), (1, 1, -1, -4), (3, 6, 0, -15)]
        self.assertEqual(state(self.run_rows(rows, 3)), state(self.run_rows(other, 3)))

    def test_known_through_several_equations_only(self):
        equations = equations_of(3)
        equations.equate(form(0, {0: 1, 1: 1, 2: 1}), form(6))
        equations.equate(form(0, {0: 1, 1: -1}), form(0))
        self.assertEqual([equations.kind(u) for u in range(3)], ["free", "dependent", "dependent"])
        equations.equate(form(0, {0: 1, 1: 1}), form(4))
        self.assertEqual([equations.form(u) for u in range(3)], [form(2), form(2), form(2)])

    def test_numbers_of_the_forms_are_numbers(self):
        equations = equations_of(2)
        equations.equate(form(0, {0: 3, 1: 7}), form(number(1)[0]))
        self.assertTrue(is_form(equations.form(1)))


if __name__ == "__main__":
    unittest.main()
