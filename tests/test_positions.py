"""Point 32: which error comes first, and at which position."""

import unittest
from random import Random

from fontwinding.errors import InvalidSyntax, TooDeep, TooLong
from fontwinding.statements import parse
from tests.grammar import CLASSES, RULES, Recognizer

TERMINALS = sorted({s for choices in RULES.values() for c in choices for s in c if s not in RULES})
NEVER = ['"|=:|>>"', '"="', '";"', '")"', '"]"', '","', '":"', '"endfor"', '"fi"', '"enddef"']


class PositionCase(unittest.TestCase):
    def error(self, text):
        """The class of the error, and the position if it has one."""
        try:
            parse(text)
        except InvalidSyntax as invalid:
            return (InvalidSyntax, invalid.position)
        except (TooLong, TooDeep) as error:
            return type(error)
        return None


class OrderTest(PositionCase):
    def test_too_long_before_everything(self):
        for piece in ("% ", "z" * 17 + " ", "( ", "fill ", ") "):
            text = piece * (6001 // len(piece) + 1)
            self.assertEqual(self.error(text[:6001]), TooLong)
            self.assertNotEqual(self.error(text[:6000]), TooLong)

    def test_invalid_tokens_before_too_deep(self):
        self.assertEqual(self.error("(" * 17 + "%"), (InvalidSyntax, 17))
        self.assertEqual(self.error("(" * 20 + " " + "q" * 17), (InvalidSyntax, 21))
        self.assertEqual(self.error("[" * 20 + " " + "1" * 16), (InvalidSyntax, 21))
        self.assertEqual(self.error("fill fill " + "(" * 17 + " |"), (InvalidSyntax, 28))

    def test_invalid_tokens_before_the_grammar(self):
        self.assertEqual(self.error("fill fill; %"), (InvalidSyntax, 11))
        self.assertEqual(self.error(") ; ; !"), (InvalidSyntax, 6))
        self.assertEqual(self.error("x1.5 = 3; " + "1" * 16), (InvalidSyntax, 10))

    def test_too_deep_before_the_grammar(self):
        self.assertEqual(self.error("; " + "(" * 17), TooDeep)
        self.assertEqual(self.error("fill fill; x = " + "(" * 17 + "1" + ")" * 17 + ";"), TooDeep)
        self.assertEqual(self.error("; " + "(" * 16), (InvalidSyntax, 0))

    def test_lengths(self):
        self.assertIsNone(self.error(" " * 6000))
        self.assertEqual(self.error(" " * 6001), TooLong)
        self.assertIsNone(self.error("a=b;" * 1500))
        self.assertEqual(self.error("a=b;" * 1500 + "a"), TooLong)
        self.assertEqual(len(parse("a=b;" * 1500)), 1500)


class DepthTest(PositionCase):
    def test_16_and_17_brackets(self):
        for opening, closing in (("(", ")"), ("x[", "]"), ("floor(", ")"), ("-(", ")"), ("min(1, ", ") -- b"),
                                 ("not (", ")"), ("a .. controls b and (", ") .. cycle"), ("a .. tension (", ") .. c"),
                                 ("(2, ", ") shifted 3"), ("way(a, ", ", c)")):
            self.assertIsNone(self.error(f"show {opening * 16}1{closing * 16};"), opening)
            self.assertEqual(self.error(f"show {opening * 17}1{closing * 17};"), TooDeep)

    def test_16_and_17_blocks(self):
        for opening, closing in (("for i = 1: ", "endfor; "), ("if a: ", "fi; "), ("if a: elseif b: else: ", "fi; ")):
            self.assertIsNone(self.error(opening * 16 + closing * 16))
            self.assertEqual(self.error(opening * 17 + closing * 17), TooDeep)
        # The bracket of the innermost definition is open, too, before its body.
        self.assertIsNone(self.error("def f() = " * 15 + "if a: fi; " + "enddef; " * 15))
        self.assertEqual(self.error("def f() = " * 16 + "enddef; " * 16), TooDeep)
        self.assertEqual(self.error("def f() = " * 15 + "if a: if a: fi; fi; " + "enddef; " * 15), TooDeep)

    def test_brackets_and_blocks_together(self):
        text = "for i = 1: if a: def f() = " * 5 + "show {}1{}; " + "enddef; fi; endfor; " * 5
        self.assertIsNone(self.error(text.format("(", ")")))
        self.assertEqual(self.error(text.format("((", "))")), TooDeep)
        self.assertEqual(self.error(text.format("x[(", ")]")), TooDeep)

    def test_closed_ones_do_not_count(self):
        self.assertIsNone(self.error("show (1); " * 100))
        self.assertIsNone(self.error("for i = 1: endfor; " * 100))
        self.assertIsNone(self.error("show " + "(1) + " * 100 + "x[1];"))
        self.assertIsNone(self.error("show " + "(" * 16 + "1" + ") + (1" * 50 + ")" * 16 + ";"))

    def test_other_words_open_nothing(self):
        self.assertIsNone(self.error("if a: " + "elseif b: " * 50 + "else: fi;"))
        self.assertEqual(self.error("beginchar endchar " * 20)[0], InvalidSyntax)
        self.assertEqual(self.error("else " * 50), (InvalidSyntax, 0))

    def test_a_closing_token_when_none_is_open(self):
        for closing in (")", "]", " fi ", " endfor ", " enddef "):
            self.assertEqual(self.error(closing * 5 + "(" * 17), TooDeep)
            self.assertEqual(self.error(closing * 5 + "(" * 16)[0], InvalidSyntax)
            self.assertEqual(self.error("(" * 16 + closing + "(")[0], InvalidSyntax)
            self.assertEqual(self.error("(" * 16 + closing + "(("), TooDeep)
            # Any closing token closes any opening one.
            for opening in ("(", "[", " if ", " for ", " def "):
                self.assertEqual(self.error(opening * 16 + closing + opening)[0], InvalidSyntax)
                self.assertEqual(self.error(opening * 16 + closing + opening * 2), TooDeep)


class PositionTest(PositionCase):
    def test_a_text_that_ends_too_early(self):
        for text in ("fill", "fill ", "fill\n\n", "a", "a = b", "a = b ", "a = (b", "for", "if a:", "if a: a = b;  ",
                     "def f() =", "beginchar(1,", "ligtable 1:", "declare", "f(", "a .. ", "a.. tension 1", "a1 :="):
            self.assertEqual(self.error(text), (InvalidSyntax, len(text)), text)

    def test_the_first_invalid_token_counts(self):
        self.assertEqual(self.error("a = b; fill ; ) fill ;"), (InvalidSyntax, 12))
        self.assertEqual(self.error("  ;;;"), (InvalidSyntax, 2))
        self.assertEqual(self.error("a b c d"), (InvalidSyntax, 2))
        self.assertEqual(self.error("a = b;\n\n  endfor;"), (InvalidSyntax, 10))

    def test_the_position_is_that_of_the_first_character(self):
        self.assertEqual(self.error("a = b endchar"), (InvalidSyntax, 6))
        self.assertEqual(self.error("a = 1 123"), (InvalidSyntax, 6))
        self.assertEqual(self.error("a = b 1.23"), (InvalidSyntax, 6))
        self.assertEqual(self.error("a = 1 |=:|>>"), (InvalidSyntax, 6))


class GrammarTest(PositionCase):
    """Compares positions with a recognizer that knows the grammar only."""

    def spell(self, token, chance):
        if token == "NAME":
            return "".join(chance.choice("abcdexyz") for _ in range(12))
        if token == "DIGITS":
            return chance.choice(("0", "7", "12"))
        if token == "DECIMAL":
            return chance.choice(("0.5", "1.0"))
        return token[1:-1]

    def check(self, text, token, recognizer):
        """Every token of the table, or some, behind a text that may begin a program."""
        expected = recognizer.expected()
        end = len(text)
        error = self.error(text)
        self.assertEqual(error, None if recognizer.is_complete() else (InvalidSyntax, end), text)
        error = self.error(text + token)
        if self.kind(token) in expected:
            self.assertIn(error, (None, (InvalidSyntax, end + len(token))), text + token)
        else:
            self.assertEqual(error, (InvalidSyntax, end), text + token)

    def kind(self, token):
        if token[0].isdigit():
            return "DECIMAL" if "." in token else "DIGITS"
        return f'"{token}"' if f'"{token}"' in TERMINALS else "NAME"

    def test_any_beginnings_of_programs(self):
        chance = Random(32)
        for _ in range(150):
            recognizer, text, opened = Recognizer(), "", 0
            for _ in range(chance.randint(1, 14)):
                for token in chance.sample(TERMINALS, 6):
                    self.check(text, self.spell(token, chance), recognizer)
                expected = recognizer.expected()
                kind = chance.choice(expected)
                if chance.random() < 0.5:
                    kind = chance.choice([token for token in expected if token in NEVER + list(CLASSES)] or [kind])
                token = self.spell(kind, chance)
                opened += token in ("(", "[", "if", "for", "def")
                if opened > 15:
                    break
                recognizer.read(kind)
                text += token + chance.choice((" ", "\n", "  "))

    def test_every_token_behind_every_token(self):
        for beginning in ("", "a = b ;", "for i =", "if a :", "def f (", "def f ( a , b , c , d , e , g", "declare",
                          "declare pair a", "a", "a 1", "( a )", "a [ b ]", "f (", "beginchar ( a , b", "ligtable",
                          "ligtable a", "ligtable a :", "ligtable edge", "ligtable a =:", "ligtable a kern b",
                          "show a ..", "show a .. tension b", "show a .. controls b", "show a .. controls b and c",
                          "show a -- cycle", "show a < b", "show not a", "show a and b", "show - a", "show floor ( a",
                          "show min ( a", "show way ( a , b", "show way ( a , b , c", "show a * b", "show ( a , b",
                          "for i = a", "for i = a , b", "for i = a step b", "for i = a step b until c", "endchar",
                          "if a : a = b ; elseif b :", "if a : else :", "for i = a : a = b ;", "def f ( ) = a = b ;"):
            recognizer = Recognizer()
            for token in beginning.split():
                recognizer.read(self.kind(token))
            for terminal in TERMINALS:
                token = {"NAME": "qq", "DIGITS": "12", "DECIMAL": "1.0"}.get(terminal, terminal[1:-1])
                self.check(beginning + " ", token, recognizer)


if __name__ == "__main__":
    unittest.main()
