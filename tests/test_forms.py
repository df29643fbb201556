"""Points 6 and 7: linear forms."""

import unittest
from fractions import Fraction
from random import Random

from fontwinding.errors import TooGreat
from fontwinding.forms import (
    add_forms, coefficient, known_form, replace_unknown, scale_form, subtract_forms, unknown_form)
from tests.support import LIMIT, is_form, number, value


def form(constant, terms=None):
    """A form of plain integers and fractions; `terms` is a dict."""
    terms = terms or {}
    return (number(constant), tuple((unknown, number(terms[unknown])) for unknown in sorted(terms)))


def exact(a):
    return (value(a[0]), {unknown: value(factor) for unknown, factor in a[1]})


def combined(a, b, sign):
    (first, left), (second, right) = exact(a), exact(b)
    terms = {u: left.get(u, 0) + sign * right.get(u, 0) for u in left.keys() | right.keys()}
    return form(first + sign * second, {u: factor for u, factor in terms.items() if factor})


def any_form(chance, unknowns=8):
    terms = {u: Fraction(chance.randint(-3, 3), chance.randint(1, 3)) for u in range(unknowns)
             if chance.randint(0, 1)}
    return form(Fraction(chance.randint(-9, 9), chance.randint(1, 4)), {u: f for u, f in terms.items() if f})


class FormsTest(unittest.TestCase):
    def test_known_and_unknown_form(self):
        self.assertEqual(known_form((-3, 2)), ((-3, 2), ()))
        self.assertEqual(unknown_form(0), ((0, 1), ((0, (1, 1)),)))
        self.assertEqual(unknown_form(79), ((0, 1), ((79, (1, 1)),)))

    def test_terms_are_in_ascending_order(self):
        a = form(1, {0: 1, 5: 2, 9: 3})
        b = form(2, {2: 1, 5: 1, 11: 4})
        wanted = ((3, 1), ((0, (1, 1)), (2, (1, 1)), (5, (3, 1)), (9, (3, 1)), (11, (4, 1))))
        self.assertEqual(add_forms(a, b), wanted)
        self.assertEqual(add_forms(b, a), wanted)
        self.assertEqual(add_forms(unknown_form(10), unknown_form(9))[1], ((9, (1, 1)), (10, (1, 1))))
        self.assertEqual(subtract_forms(unknown_form(10), unknown_form(9))[1], ((9, (-1, 1)), (10, (1, 1))))

    def test_terms_that_become_zero_disappear(self):
        a = form(1, {0: 1, 1: Fraction(1, 2), 2: 5})
        b = form(-1, {0: -1, 1: Fraction(1, 2), 2: -5})
        self.assertEqual(add_forms(a, b), form(0, {1: 1}))
        self.assertEqual(subtract_forms(a, a), ((0, 1), ()))
        self.assertEqual(subtract_forms(a, b), form(2, {0: 2, 2: 10}))

    def test_scale(self):
        a = form(3, {1: Fraction(1, 2), 4: -2})
        self.assertEqual(scale_form(a, (-2, 1)), form(-6, {1: -1, 4: 4}))
        self.assertEqual(scale_form(a, (1, 1)), a)
        self.assertEqual(scale_form(a, (0, 1)), ((0, 1), ()))

    def test_replace(self):
        a = form(1, {0: 2, 3: -1, 5: 4})
        self.assertEqual(replace_unknown(a, 3, form(7, {1: 3})), form(-6, {0: 2, 1: -3, 5: 4}))
        self.assertEqual(replace_unknown(a, 0, form(0, {3: Fraction(1, 2)})), form(1, {5: 4}))
        self.assertEqual(replace_unknown(a, 5, form(2)), form(9, {0: 2, 3: -1}))

    def test_the_other_form_may_have_the_unknown(self):
        self.assertEqual(replace_unknown(form(1, {2: 3}), 2, form(5, {2: 1, 4: 1})), form(16, {2: 3, 4: 3}))

    def test_replace_an_unknown_that_is_not_there(self):
        a = form(1, {0: 2, 3: -1})
        self.assertEqual(replace_unknown(a, 1, form(7, {9: 3})), a)
        self.assertEqual(replace_unknown(known_form((LIMIT, 1)), 0, known_form((LIMIT, 1))), known_form((LIMIT, 1)))

    def test_coefficient(self):
        a = form(9, {0: 2, 3: Fraction(-1, 2)})
        self.assertEqual(coefficient(a, 0), (2, 1))
        self.assertEqual(coefficient(a, 3), (-1, 2))
        self.assertEqual(coefficient(a, 1), (0, 1))
        self.assertEqual(coefficient(known_form((5, 1)), 0), (0, 1))

    def test_forms_over_many_unknowns(self):
        even = form(1, {u: u + 1 for u in range(0, 80, 2)})
        odd = form(2, {u: -u for u in range(1, 80, 2)})
        both = add_forms(odd, even)
        self.assertEqual([u for u, _ in both[1]], list(range(80)))
        self.assertEqual(subtract_forms(both, odd), even)
        self.assertEqual(replace_unknown(both, 0, form(0, {u: 1 for u in range(1, 80)}))[1][-1], (79, (-78, 1)))

    def test_any_forms(self):
        chance = Random(7)
        for _ in range(400):
            a, b = any_form(chance), any_form(chance)
            factor = Fraction(chance.randint(-4, 4), chance.randint(1, 3))
            unknown = chance.randint(0, 7)
            self.assertEqual(add_forms(a, b), combined(a, b, 1))
            self.assertEqual(subtract_forms(a, b), combined(a, b, -1))
            constant, terms = exact(a)
            scaled = {u: f * factor for u, f in terms.items() if factor}
            self.assertEqual(scale_form(a, number(factor)), form(constant * factor, scaled))
            replaced = replace_unknown(a, unknown, b)
            held = terms.pop(unknown, 0)
            wanted = combined(form(constant, terms), scale_form(b, number(held)), 1)
            self.assertEqual(replaced, wanted)
            for made in (add_forms(a, b), subtract_forms(a, b), scale_form(a, number(factor)), replaced):
                self.assertTrue(is_form(made))


class TooGreatTest(unittest.TestCase):
    def test_at_the_limits(self):
        top = form(LIMIT, {0: LIMIT})
        self.assertEqual(add_forms(form(LIMIT - 1, {0: LIMIT - 1}), form(1, {0: 1})), top)
        self.assertEqual(subtract_forms(form(1 - LIMIT, {0: 1}), form(1, {0: 1})), form(-LIMIT))
        self.assertEqual(subtract_forms(form(0), top), form(-LIMIT, {0: -LIMIT}))
        self.assertEqual(scale_form(top, (-1, LIMIT)), form(-1, {0: -1}))

    def test_the_constant(self):
        with self.assertRaises(TooGreat):
            add_forms(form(LIMIT), form(1))
        with self.assertRaises(TooGreat):
            subtract_forms(form(-LIMIT), form(1))
        with self.assertRaises(TooGreat):
            scale_form(form(LIMIT), (2, 1))

    def test_a_coefficient(self):
        with self.assertRaises(TooGreat):
            add_forms(form(0, {4: LIMIT}), form(0, {4: 1}))
        with self.assertRaises(TooGreat):
            subtract_forms(form(0, {4: -LIMIT}), form(0, {4: 1}))
        with self.assertRaises(TooGreat):
            scale_form(form(0, {4: Fraction(1, LIMIT)}), (1, 2))

    def test_replacing_is_scaling_and_then_adding(self):
        self.assertEqual(replace_unknown(form(-1, {0: 1}), 0, form(LIMIT)), form(LIMIT - 1))
        with self.assertRaises(TooGreat):
            replace_unknown(form(1, {0: 1}), 0, form(LIMIT))
        # The sum would be within the limits, the scaled form is not.
        with self.assertRaises(TooGreat):
            replace_unknown(form(-LIMIT, {0: 2}), 0, form(LIMIT))
        with self.assertRaises(TooGreat):
            replace_unknown(form(0, {0: 2, 1: -LIMIT}), 0, form(0, {1: LIMIT}))


if __name__ == "__main__":
    unittest.main()
