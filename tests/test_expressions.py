"""Points 33 and 35: the grammar and the trees of expressions."""

import unittest

from fontwinding.errors import InvalidSyntax
from fontwinding.statements import parse


def num(n, d=1):
    return ("number", (n, d))


def var(name, subscript=None):
    return ("variable", name, subscript)


A, B, C, D = (var(name) for name in "abcd")
LINE = ("line",)
SMOOTH = ("smooth", None)

ONE = "floor round xpart ypart known length reverse area inverse top bot lft rt".split()
TWO = "min max dot point winding".split()
THREE = "way subpath".split()
MOVERS = "shifted scaled xscaled yscaled slanted rotated transformed".split()


class ExpressionCase(unittest.TestCase):
    def reads(self, text, tree):
        """The text alone, and in brackets, is read as the tree."""
        self.assertEqual(parse(f"show {text};"), (("show", tree),), text)
        self.assertEqual(parse(f"show({text});"), (("show", tree),), text)
        self.assertEqual(parse(f"show(({text}));"), (("show", tree),), text)

    def fails(self, marked):
        """The text as an expression is invalid at the place with the mark."""
        text = marked.replace("^", "")
        with self.assertRaises(InvalidSyntax) as caught:
            parse(f"show {text};")
        self.assertEqual(caught.exception.position, len("show ") + marked.index("^"), marked)


class PrimaryTest(ExpressionCase):
    def test_numbers(self):
        for text, tree in (("0", num(0)), ("12", num(12)), ("0.50", num(1, 2)), ("007", num(7)), ("2.5", num(5, 2))):
            self.reads(text, tree)
        self.fails("1 ^2")
        self.fails("1^x")

    def test_constants(self):
        for word in "true false pix identity whatever".split():
            self.reads(word, ("constant", word))
            self.fails(word + "^1")
            self.fails(word + "^[1]")
            self.fails(word + "^(1)")

    def test_variables(self):
        self.reads("a", A)
        self.reads("abcdefghijklmnop", var("abcdefghijklmnop"))

    def test_subscripts(self):
        self.reads("a1", var("a", num(1)))
        self.reads("a 1", var("a", num(1)))
        self.reads("a\n007", var("a", num(7)))
        self.reads("a99999", var("a", num(99999)))
        self.reads("a[1]", var("a", num(1)))
        self.reads("a[1.0]", var("a", num(1)))
        self.reads("a [ 0.5 ]", var("a", num(1, 2)))
        self.reads("a[b + 1]", var("a", ("sum", B, (("+", num(1)),))))
        self.reads("a[b[c1]]", var("a", var("b", var("c", num(1)))))
        self.reads("a[a or b]", var("a", ("or", (A, B))))
        self.reads("a[(b, c)]", var("a", ("pair", B, C)))
        self.reads("a[-1]", var("a", ("minus", num(1))))

    def test_invalid_subscripts(self):
        self.fails("a^1.5")
        self.fails("a ^1.0")
        self.fails("a1 ^2")
        self.fails("a[1] ^2")
        self.fails("a[1]^[2]")
        self.fails("a1^[2]")
        self.fails("a[^]")
        self.fails("a[1^, 2]")
        self.fails("a[1^)")
        self.fails("a[^edge]")

    def test_brackets_and_pairs(self):
        self.reads("(a, b)", ("pair", A, B))
        self.reads("((a, b), (c))", ("pair", ("pair", A, B), C))
        self.reads("(a or b, c < d)", ("pair", ("or", (A, B)), ("relation", "<", C, D)))
        self.fails("(^)")
        self.fails("(a^")
        self.fails("(a,^)")
        self.fails("(a,b^,c)")
        self.fails("(^,a)")
        self.fails("a^)")
        self.fails("(a^]")

    def test_functions(self):
        for words, text, arguments in ((ONE, "a", (A,)), (TWO, "a, b", (A, B)), (THREE, "a, b, c", (A, B, C))):
            for word in words:
                self.reads(f"{word}({text})", ("call", word, arguments))
                self.reads(f"{word} ( {text} )", ("call", word, arguments))
        self.reads("floor(a or b)", ("call", "floor", (("or", (A, B)),)))
        self.reads("min((a, b), max(c, d))", ("call", "min", (("pair", A, B), ("call", "max", (C, D)))))

    def test_numbers_of_arguments(self):
        for word in ONE:
            self.fails(word + "(^)")
            self.fails(word + "(a^, b)")
            self.fails(word + "^")
            self.fails(word + "^[a]")
            self.fails(word + "^1")
        for word in TWO:
            self.fails(word + "(^)")
            self.fails(word + "(a^)")
            self.fails(word + "(a, b^, c)")
            self.fails(word + "(a^; b)")
        for word in THREE:
            self.fails(word + "(a, b^)")
            self.fails(word + "(a, b, c^, d)")

    def test_what_is_no_primary(self):
        for word in ("cycle", "edge", "kern", "and", "or", "mod", "div", "shifted", "fill", "if", "tension", "until",
                     "numeric", ";", ",", ":", ")", "]", "[", "+", "*", "=", "..", "--", "<", ":=", "=:"):
            self.fails("^" + word)
        self.fails("a ^(b)")
        self.fails("1^(b)")
        self.fails("(a)^(b)")


class OperatorsTest(ExpressionCase):
    def test_minus(self):
        self.reads("-a", ("minus", A))
        self.reads("-a1", ("minus", var("a", num(1))))
        self.reads("-(-a)", ("minus", ("minus", A)))
        self.reads("-floor(a)", ("minus", ("call", "floor", (A,))))
        self.reads("- (a, b)", ("minus", ("pair", A, B)))
        self.fails("- ^-a")
        self.fails("^--a")
        self.fails("-^not a")
        self.fails("^+a")

    def test_products(self):
        for sign in ["*", "/", "div", "mod"] + MOVERS:
            self.reads(f"a {sign} b", ("product", A, ((sign, B),)))
            self.reads(f"-a {sign} -b", ("product", ("minus", A), ((sign, ("minus", B)),)))
        self.reads("a*b/c div d", ("product", A, (("*", B), ("/", C), ("div", D))))
        self.reads("a*(b/c)", ("product", A, (("*", ("product", B, (("/", C),))),)))
        self.reads("(a*b)/c", ("product", ("product", A, (("*", B),)), (("/", C),)))
        self.reads("(a, b) shifted (c, d) rotated 90",
                   ("product", ("pair", A, B), (("shifted", ("pair", C, D)), ("rotated", num(90)))))
        self.fails("a*^")
        self.fails("a * ^* b")
        self.fails("a * ^not b")
        self.fails("^* b")

    def test_sums(self):
        self.reads("a+b", ("sum", A, (("+", B),)))
        self.reads("a-b", ("sum", A, (("-", B),)))
        self.reads("a - b + c - d", ("sum", A, (("-", B), ("+", C), ("-", D))))
        self.reads("a - (b + c)", ("sum", A, (("-", ("sum", B, (("+", C),))),)))
        self.reads("(a - b) + c", ("sum", ("sum", A, (("-", B),)), (("+", C),)))
        self.reads("a - -b", ("sum", A, (("-", ("minus", B)),)))
        self.reads("-a - b", ("sum", ("minus", A), (("-", B),)))
        self.reads("a + b*c", ("sum", A, (("+", ("product", B, (("*", C),))),)))
        self.reads("a*b + c", ("sum", ("product", A, (("*", B),)), (("+", C),)))
        self.reads("(a + b)*c", ("product", ("sum", A, (("+", B),)), (("*", C),)))
        self.fails("a + ^+ b")
        self.fails("a - ^--b")

    def test_relations(self):
        for sign in ("<", "<=", ">", ">=", "==", "<>"):
            self.reads(f"a {sign} b", ("relation", sign, A, B))
            self.fails(f"a {sign} b ^{sign} c")
            self.reads(f"(a {sign} b) {sign} c", ("relation", sign, ("relation", sign, A, B), C))
        self.reads("a + b < c", ("relation", "<", ("sum", A, (("+", B),)), C))
        self.reads("a -- b == c -- d",
                   ("relation", "==", ("join", (A, B), (LINE,), False), ("join", (C, D), (LINE,), False)))
        self.reads("a -- cycle <> b", ("relation", "<>", ("join", (A,), (LINE,), True), B))
        self.fails("a < ^not b")
        self.fails("a ^= b")

    def test_not(self):
        self.reads("not a", ("not", A))
        self.reads("not a < b", ("not", ("relation", "<", A, B)))
        self.reads("(not a) < b", ("relation", "<", ("not", A), B))
        self.reads("not (not a)", ("not", ("not", A)))
        self.reads("not -a", ("not", ("minus", A)))
        self.fails("not ^not a")

    def test_and_and_or(self):
        self.reads("a and b", ("and", (A, B)))
        self.reads("a and b and c", ("and", (A, B, C)))
        self.reads("a or b or c or d", ("or", (A, B, C, D)))
        self.reads("a or b and c or d", ("or", (A, ("and", (B, C)), D)))
        self.reads("(a or b) and c", ("and", (("or", (A, B)), C)))
        self.reads("(a and b) and c", ("and", (("and", (A, B)), C)))
        self.reads("a and (b and c)", ("and", (A, ("and", (B, C)))))
        self.reads("a or (b or c)", ("or", (A, ("or", (B, C)))))
        self.reads("not a and not b or not c", ("or", (("and", (("not", A), ("not", B))), ("not", C))))
        self.reads("not (a and b)", ("not", ("and", (A, B))))
        self.fails("a or ^or b")
        self.fails("a and ^or b")
        self.fails("^and a")


class JoinTest(ExpressionCase):
    def test_lines(self):
        self.reads("a -- b", ("join", (A, B), (LINE,), False))
        self.reads("a--b--c--d", ("join", (A, B, C, D), (LINE, LINE, LINE), False))
        self.reads("(a -- b) -- c", ("join", (("join", (A, B), (LINE,), False), C), (LINE,), False))
        self.reads("a -- (b -- c)", ("join", (A, ("join", (B, C), (LINE,), False)), (LINE,), False))
        self.reads("a -- -b", ("join", (A, ("minus", B)), (LINE,), False))

    def test_smooth_joins(self):
        self.reads("a .. b", ("join", (A, B), (SMOOTH,), False))
        self.reads("1..2", ("join", (num(1), num(2)), (SMOOTH,), False))
        self.reads("a .. tension 2 .. b", ("join", (A, B), (("smooth", num(2)),), False))
        self.reads("a .. tension c + d .. b", ("join", (A, B), (("smooth", ("sum", C, (("+", D),))),), False))
        self.reads("a .. tension (c -- d) .. b",
                   ("join", (A, B), (("smooth", ("join", (C, D), (LINE,), False)),), False))

    def test_curves(self):
        self.reads("a .. controls c .. b", ("join", (A, B), (("curve", C, C),), False))
        self.reads("a .. controls c and d .. b", ("join", (A, B), (("curve", C, D),), False))
        self.reads("a .. controls c and c .. b", ("join", (A, B), (("curve", C, C),), False))
        self.reads("a .. controls c + d and -d .. b",
                   ("join", (A, B), (("curve", ("sum", C, (("+", D),)), ("minus", D)),), False))
        self.reads("a .. controls (c and d) .. b", ("join", (A, B), (("curve",) + (("and", (C, D)),) * 2,), False))

    def test_cycles(self):
        self.reads("a -- cycle", ("join", (A,), (LINE,), True))
        self.reads("a .. cycle", ("join", (A,), (SMOOTH,), True))
        self.reads("a -- b .. c .. tension 1 .. cycle",
                   ("join", (A, B, C), (LINE, SMOOTH, ("smooth", num(1))), True))
        self.reads("a .. controls b and c .. cycle", ("join", (A,), (("curve", B, C),), True))
        self.reads("(a -- cycle) -- b", ("join", (("join", (A,), (LINE,), True), B), (LINE,), False))
        self.reads("a -- b and c -- cycle",
                   ("and", (("join", (A, B), (LINE,), False), ("join", (C,), (LINE,), True))))

    def test_items_are_sums(self):
        self.reads("a + b -- c * d .. -a", ("join", (
            ("sum", A, (("+", B),)), ("product", C, (("*", D),)), ("minus", A)), (LINE, SMOOTH), False))
        self.reads("(a < b) -- c", ("join", (("relation", "<", A, B), C), (LINE,), False))

    def test_invalid_joins(self):
        self.fails("a --^")
        self.fails("a -- ^-- b")
        self.fails("a -- ^.. b")
        self.fails("a -- ^tension 1 .. b")
        self.fails("a -- ^controls c .. b")
        self.fails("a -- ^not b")
        self.fails("a .. tension 1 ^-- b")
        self.fails("a .. tension 1 ^and 2 .. b")
        self.fails("a .. tension 1 ^< 2 .. b")
        self.fails("a .. tension ^not c .. b")
        self.fails("a .. tension ^.. b")
        self.fails("a .. controls c ^-- b")
        self.fails("a .. controls c^, d .. b")
        self.fails("a .. controls c and d ^and b .. b")
        self.fails("a .. controls c and ^cycle .. b")
        self.fails("a -- cycle ^-- b")
        self.fails("a -- cycle ^.. cycle")
        self.fails("a -- cycle^1")
        self.fails("a -- cycle ^+ b")
        self.fails("^cycle -- a")


if __name__ == "__main__":
    unittest.main()
