"""The errors of the interface."""

import unittest

from fontwinding import errors

PLAIN = ["TooGreat", "DivisionByZero", "Contradiction", "OutOfRange", "TooMany", "TooLong", "TooDeep",
         "WrongKind", "UnknownValue", "WrongOrder", "EndlessPair"]
PLACED = ["InvalidSyntax", "BadFile"]


class ErrorsTest(unittest.TestCase):
    def test_each_error_is_a_font_error_and_a_value_error(self):
        for name in PLAIN + PLACED:
            error = getattr(errors, name)
            self.assertTrue(issubclass(error, errors.FontError), name)
            self.assertTrue(issubclass(error, ValueError), name)
            self.assertEqual(error.__bases__, (errors.FontError,), name)
        self.assertEqual(errors.FontError.__bases__, (ValueError,))

    def test_each_error_is_a_class_of_its_own_in_this_file(self):
        classes = [getattr(errors, name) for name in ["FontError"] + PLAIN + PLACED]
        self.assertEqual(len(set(classes)), 14)
        for name, error in zip(["FontError"] + PLAIN + PLACED, classes):
            self.assertEqual((error.__module__, error.__name__), ("fontwinding.errors", name))

    def test_plain_errors_carry_a_text(self):
        for name in PLAIN:
            error = getattr(errors, name)
            with self.assertRaises(errors.FontError) as caught:
                raise error("words")
            self.assertEqual(str(caught.exception), "words")

    def test_placed_errors_have_a_position(self):
        for name in PLACED:
            error = getattr(errors, name)
            self.assertEqual(error(4).position, 4)
            self.assertEqual(error(position=0).position, 0)
            with self.assertRaises(ValueError) as caught:
                raise error(17)
            self.assertEqual(caught.exception.position, 17)


if __name__ == "__main__":
    unittest.main()
