"""Points 30, 31 and 32: the tokens of a text."""

import re
import unittest
from fractions import Fraction
from random import Random

from fontwinding.errors import InvalidSyntax, TooLong
from fontwinding.lexer import tokens
from tests.support import number

WORDS = """
    and area beginchar bot controls cycle declare def div dot draw edge else elseif endchar enddef endfor false fi
    fill floor for identity if inverse italic kern known length lft ligtable max min mod not numeric or pair path
    pickup pix point reverse rotated round rt scaled shifted show slanted step subpath tension top transform
    transformed true undraw unfill until way whatever winding xpart xscaled ypart yscaled
    """.split()
SIGNS = """
    ; , : ( ) [ ] + - * / = < > := == <> <= >= -- .. =: |=: |=:> =:| =:|> |=:| |=:|> |=:|>>
    """.split()
PATTERN = re.compile(
    r"[ \n]|(?P<letters>[a-z]+)|(?P<number>[0-9]+(?:\.[0-9]+)?)|(?P<sign>%s)"
    % "|".join(re.escape(sign) for sign in sorted(SIGNS, key=len, reverse=True)))


def expected(text):
    """The tokens of points 30 and 31, or the position at which the text goes wrong."""
    found, at = [], 0
    while at < len(text):
        match = PATTERN.match(text, at)
        if match is None:
            return at
        letters, digits, sign = match.group("letters", "number", "sign")
        if letters:
            if len(letters) > 16:
                return at
            found.append(("word" if letters in WORDS else "name", letters, at))
        elif digits:
            if sum(map(str.isdigit, digits)) > 15:
                return at
            found.append(("number", number(Fraction(digits)), at))
        elif sign:
            found.append(("sign", sign, at))
        at = match.end()
    return found


class TokensCase(unittest.TestCase):
    def values(self, text):
        """The kinds and values of the tokens."""
        return [token[:2] for token in tokens(text)]

    def signs(self, text):
        told = tokens(text)
        self.assertEqual({kind for kind, _, _ in told}, {"sign"})
        return " ".join(value for _, value, _ in told)

    def fails_at(self, position, text):
        with self.assertRaises(InvalidSyntax) as caught:
            tokens(text)
        self.assertEqual(caught.exception.position, position, text)


class SignsTest(TokensCase):
    def test_each_sign(self):
        self.assertEqual(len(SIGNS), 29)
        for sign in SIGNS:
            self.assertEqual(tokens(sign), [("sign", sign, 0)])
            self.assertEqual(tokens(f" {sign}\n{sign}"), [("sign", sign, 1), ("sign", sign, 2 + len(sign))])

    def test_each_token_is_as_long_as_possible(self):
        for text, told in (("|=:|>>", "|=:|>>"), ("|=:|>>>", "|=:|>> >"), ("|=:|>=", "|=:|> ="), ("=:|>>", "=:|> >"),
                           ("|=:>>", "|=:> >"), ("=:>", "=: >"), ("=:=", "=: ="), (":==", ":= ="), ("==:", "== :"),
                           ("===:", "== =:"), ("::=", ": :="), (":=:", ":= :"), ("---", "-- -"), ("----", "-- --"),
                           ("....", ".. .."), ("<>=", "<> ="), ("<=>", "<= >"), (">==", ">= ="), ("><", "> <"),
                           ("<<=", "< <="), ("=<", "= <"), ("=:|=:|", "=:| =:|"), ("|=:|=:", "|=:| =:")):
            self.assertEqual(self.signs(text), told)
        self.assertEqual(self.signs("|=:| |=:|>|=:|>>"), "|=:| |=:|> |=:|>>")

    def test_the_next_token_begins_behind_the_longest_one(self):
        # Other tokens could be cut from these texts, but not from left to right with the longest ones.
        self.fails_at(3, "=:||")
        self.fails_at(4, "|=:|||=:")
        self.fails_at(2, "...")
        self.fails_at(2, ":=|")

    def test_signs_beside_names_and_numbers(self):
        self.assertEqual(self.values("a--b"), [("name", "a"), ("sign", "--"), ("name", "b")])
        self.assertEqual(self.values("a:=:b"), [("name", "a"), ("sign", ":="), ("sign", ":"), ("name", "b")])
        self.assertEqual(self.values("a:|=:b"), [("name", "a"), ("sign", ":"), ("sign", "|=:"), ("name", "b")])
        self.assertEqual(self.values("a[1]"),
                         [("name", "a"), ("sign", "["), ("number", (1, 1)), ("sign", "]")])


class NamesTest(TokensCase):
    def test_each_word(self):
        self.assertEqual(len(WORDS), 67)
        for word in WORDS:
            self.assertEqual(tokens(word), [("word", word, 0)])
            for name in (word + "z", "z" + word, word[:-1] + "q", (word + word)[:16]):
                self.assertEqual(tokens(name), [("word" if name in WORDS else "name", name, 0)])
            if word[:-1] not in WORDS:
                self.assertEqual(tokens(word[:-1]), [("name", word[:-1], 0)])

    def test_names_of_1_to_16_letters(self):
        for many in range(1, 17):
            self.assertEqual(tokens("q" * many), [("name", "q" * many, 0)])
        for letter in "abcdefghijklmnopqrstuvwxyz":
            self.assertEqual(tokens(letter), [("name", letter, 0)])

    def test_17_letters(self):
        self.fails_at(0, "q" * 17)
        self.fails_at(3, "a; " + "z" * 17)
        self.fails_at(1, "1" + "transformed" * 2)
        self.fails_at(0, "q" * 5000)

    def test_names_end_at_digits_and_signs(self):
        self.assertEqual(tokens("x1y22z"), [("name", "x", 0), ("number", (1, 1), 1), ("name", "y", 2),
                                            ("number", (22, 1), 3), ("name", "z", 5)])
        self.assertEqual(self.values("if1"), [("word", "if"), ("number", (1, 1))])


class NumbersTest(TokensCase):
    def test_values_in_lowest_terms(self):
        for digits, told in (("0", (0, 1)), ("7", (7, 1)), ("007", (7, 1)), ("10", (10, 1)), ("0.0", (0, 1)),
                             ("0.5", (1, 2)), ("00.50", (1, 2)), ("2.50", (5, 2)), ("12.375", (99, 8)), ("1.0", (1, 1)),
                             ("0.1", (1, 10)), ("3.14", (157, 50)), ("0.00000000000001", (1, 10 ** 14))):
            self.assertEqual(tokens(digits), [("number", told, 0)])
            self.assertIs(type(tokens(digits)[0][1]), tuple)

    def test_15_digits(self):
        self.assertEqual(self.values("9" * 15), [("number", (10 ** 15 - 1, 1))])
        self.assertEqual(self.values("0" * 15), [("number", (0, 1))])
        self.assertEqual(self.values("9.99999999999999"), [("number", (10 ** 15 - 1, 10 ** 14))])
        self.assertEqual(self.values("99999999999999.9"), [("number", (10 ** 15 - 1, 10))])

    def test_16_digits(self):
        for digits in ("1" * 16, "0" * 16, "0" * 15 + "1", "1." + "1" * 15, "1" * 15 + ".1", "11111111.11111111"):
            self.fails_at(0, digits)
            self.fails_at(4, "x = " + digits + ";")
        self.assertEqual(self.values("1" * 15 + ".."), [("number", (111111111111111, 1)), ("sign", "..")])

    def test_a_dot_that_is_not_followed_by_a_digit(self):
        self.assertEqual(self.values("1..2"), [("number", (1, 1)), ("sign", ".."), ("number", (2, 1))])
        self.assertEqual(self.values("1.5..2"), [("number", (3, 2)), ("sign", ".."), ("number", (2, 1))])
        self.fails_at(1, "1.")
        self.fails_at(1, "1. 5")
        self.fails_at(1, "1.x")
        self.fails_at(3, "1...5")
        self.fails_at(3, "1.2.3")
        self.fails_at(0, ".5")

    def test_numbers_beside_letters(self):
        self.assertEqual(self.values("2x"), [("number", (2, 1)), ("name", "x")])
        self.assertEqual(self.values("1 2"), [("number", (1, 1)), ("number", (2, 1))])


class TextTest(TokensCase):
    def test_spaces_and_newlines(self):
        for text in ("", " ", "\n", " \n  \n"):
            self.assertEqual(tokens(text), [])
        self.assertEqual(tokens("a \n b"), [("name", "a", 0), ("name", "b", 4)])
        self.assertEqual(tokens("\n\nfor"), [("word", "for", 2)])
        self.assertEqual(self.values("= ="), [("sign", "="), ("sign", "=")])
        self.assertEqual(self.values("fi ll"), [("word", "fi"), ("name", "ll")])

    def test_characters_that_begin_no_token(self):
        begins = set("abcdefghijklmnopqrstuvwxyz0123456789;,:()[]+-*/=<> \n")
        for code in list(range(256)) + [0x661, 0x2002, 0x2028, 0xff41, 0xff11, 0x1d7ce]:
            sign = chr(code)
            if sign not in begins:
                self.fails_at(0, sign)
                self.fails_at(2, "a " + sign)
                self.fails_at(1, "a" + sign + "b")
                self.fails_at(1, "1" + sign + " ")
        for text in ("|", "|=", "| =:", "|=|", "||", "|>"):
            self.fails_at(0, text)

    def test_the_first_wrong_place_counts(self):
        self.fails_at(2, "a % " + "z" * 17)
        self.fails_at(0, "z" * 17 + " %")
        self.fails_at(18, "1234567890123456z"[:15] + " a " + "1" * 16)
        self.fails_at(4, "a b !")

    def test_6000_characters(self):
        self.assertEqual(tokens(" " * 6000), [])
        self.assertEqual(len(tokens("a " * 3000)), 3000)
        self.assertEqual(tokens(" " * 5999 + "a"), [("name", "a", 5999)])
        self.assertEqual(len(tokens(";" * 6000)), 6000)
        for text in (" " * 6001, "a " * 3000 + "a", "%" * 6001, "z" * 6001):
            with self.assertRaises(TooLong):
                tokens(text)
        self.fails_at(5999, " " * 5999 + "%")

    def test_kinds_of_values(self):
        told = tokens("fill x1.5")
        self.assertEqual(told, [("word", "fill", 0), ("name", "x", 5), ("number", (3, 2), 6)])
        self.assertIs(type(told), list)
        self.assertTrue(all(type(token) is tuple for token in told))
        told.clear()
        self.assertEqual(len(tokens("fill x1.5")), 3)

    def test_any_texts(self):
        chance = Random(30)
        pieces = WORDS + SIGNS + SIGNS + list("xyz") + ["0", "12", "3.4", ".", "|", " ", "\n", "a" * 16, "9" * 15]
        for _ in range(3000):
            text = "".join(chance.choice(pieces) for _ in range(chance.randint(1, 8)))
            wanted = expected(text)
            if type(wanted) is int:
                self.fails_at(wanted, text)
            else:
                self.assertEqual(tokens(text), wanted)


if __name__ == "__main__":
    unittest.main()
