"""Points 34 and 36: the grammar and the trees of statements."""

import unittest

from fontwinding.errors import InvalidSyntax
from fontwinding.statements import parse


def num(n, d=1):
    return ("number", (n, d))


def var(name, subscript=None):
    return ("variable", name, subscript)


A, B, C, D = (var(name) for name in "abcd")
SIGNS = "=: |=: |=:> =:| =:|> |=:| |=:|> |=:|>>".split()
EQUATION = ("equate", A, B)


class StatementCase(unittest.TestCase):
    def reads(self, text, *trees):
        """The text, with other spaces too, is read as these statements."""
        self.assertEqual(parse(text), trees, text)
        self.assertEqual(parse("\n" + text.replace(" ", "\n \n") + " "), trees, text)

    def fails(self, marked):
        """The text is invalid at the place with the mark."""
        with self.assertRaises(InvalidSyntax) as caught:
            parse(marked.replace("^", ""))
        self.assertEqual(caught.exception.position, marked.index("^"), marked)


class ProgramTest(StatementCase):
    def test_examples_of_the_interface(self):
        self.assertEqual(parse("x1 = 2 * y;"), (
            ('equate', ('variable', 'x', ('number', (1, 1))),
             ('product', ('number', (2, 1)), (('*', ('variable', 'y', None)),))),))
        self.fails("fill^")

    def test_no_statements(self):
        self.reads("")
        self.reads("  ")

    def test_each_statement_has_its_semicolon(self):
        self.reads("a = b; a = b;", EQUATION, EQUATION)
        self.fails("a = b^")
        self.fails("a = b ^a = b;")
        self.fails("^;")
        self.fails("a = b;^;")

    def test_words_that_begin_no_statement(self):
        for word in ("cycle", "step", "until", "kern", "edge", "numeric", "and", "or", "div", "shifted", "tension",
                     "controls", "elseif", "else", "fi", "endfor", "enddef"):
            self.fails(f"^{word};")
            self.fails(f"a = b; ^{word};")


class DeclareTest(StatementCase):
    def test_declarations(self):
        for kind in ("numeric", "pair", "path", "transform"):
            self.reads(f"declare {kind} a;", ("declare", kind, ("a",)))
        self.reads("declare pair a, bcd , a;", ("declare", "pair", ("a", "bcd", "a")))

    def test_invalid_declarations(self):
        self.fails("declare ^a;")
        self.fails("declare ^known a;")
        self.fails("declare numeric^;")
        self.fails("declare numeric a,^;")
        self.fails("declare numeric a ^b;")
        self.fails("declare numeric a^1;")
        self.fails("declare numeric a^[1];")
        self.fails("declare numeric ^top;")
        self.fails("declare numeric a, ^fi;")


class AssignAndEquateTest(StatementCase):
    def test_assignments(self):
        self.reads("a := b;", ("assign", A, B))
        self.reads("a1 := b or c;", ("assign", var("a", num(1)), ("or", (B, C))))
        self.reads("a[b] := -c;", ("assign", var("a", B), ("minus", C)))
        self.reads("a[b < c] := c -- cycle;",
                   ("assign", var("a", ("relation", "<", B, C)), ("join", (C,), (("line",),), True)))

    def test_equations(self):
        self.reads("a = b;", EQUATION)
        self.reads("a1 = b;", ("equate", var("a", num(1)), B))
        self.reads("(a) = b;", EQUATION)
        self.reads("1 = 2;", ("equate", num(1), num(2)))
        self.reads("-a = b;", ("equate", ("minus", A), B))
        self.reads("(a, b) = (c, d);", ("equate", ("pair", A, B), ("pair", C, D)))
        self.reads("not a or b = c == d;",
                   ("equate", ("or", (("not", A), B)), ("relation", "==", C, D)))
        self.reads("a + b = c;", ("equate", ("sum", A, (("+", B),)), C))
        self.reads("top(a) = whatever;", ("equate", ("call", "top", (A,)), ("constant", "whatever")))
        self.reads("pix = true;", ("equate", ("constant", "pix"), ("constant", "true")))

    def test_an_assignment_is_for_a_variable_that_is_not_in_brackets(self):
        self.fails("(a) ^:= b;")
        self.fails("(a1) ^:= b;")
        self.fails("a + b ^:= c;")
        self.fails("-a ^:= b;")
        self.fails("a or b ^:= c;")
        self.fails("not a ^:= b;")
        self.fails("1 ^:= b;")
        self.fails("(a, b) ^:= c;")
        self.fails("a -- cycle ^:= c;")
        self.fails("true ^:= c;")
        self.fails("top(a) ^:= c;")
        self.fails("f(a) ^:= c;")

    def test_invalid_ones(self):
        self.fails("a^;")
        self.fails("a =^;")
        self.fails("a :=^;")
        self.fails("a = b ^= c;")
        self.fails("a := b ^:= c;")
        self.fails("a := b ^= c;")
        self.fails("a = b ^:= c;")
        self.fails("a ^: = b;")
        self.fails("a1 ^2 := b;")
        self.fails("a ^b = c;")


class WordTest(StatementCase):
    def test_words_with_one_expression(self):
        for word in "fill unfill draw undraw pickup italic show".split():
            self.reads(f"{word} a;", (word, A))
            self.reads(f"{word} (a, b) -- c or d;",
                       (word, ("or", (("join", (("pair", A, B), C), (("line",),), False), D))))
            self.fails(f"{word}^;")
            self.fails(f"{word} a^, b;")
            self.fails(f"{word} a ^= b;")
            self.fails(f"{word} a ^:= b;")

    def test_beginchar_and_endchar(self):
        self.reads("beginchar(a, 1, b or c, (d));", ("beginchar", A, num(1), ("or", (B, C)), D))
        self.reads("endchar;", ("endchar",))
        self.fails("beginchar ^65;")
        self.fails("beginchar(1, 2, ^);")
        self.fails("beginchar(1, 2^;")
        self.fails("beginchar(1, 2, 3^);")
        self.fails("beginchar(1, 2, 3, 4^, 5);")
        self.fails("beginchar(1, 2, 3, 4) ^a;")
        self.fails("beginchar(^);")
        self.fails("endchar ^1;")
        self.fails("endchar^();")


class LigtableTest(StatementCase):
    def test_kerns_and_ligatures(self):
        self.reads("ligtable a kern b;", ("ligtable", (("step", A, ("kern", B)),)))
        for sign in SIGNS:
            self.reads(f"ligtable a {sign} b;", ("ligtable", (("step", A, ("ligature", sign, B)),)))
            self.reads(f"ligtable a{sign}b or c;", ("ligtable", (("step", A, ("ligature", sign, ("or", (B, C)))),)))
        self.reads("ligtable 1 + 2 kern -3;",
                   ("ligtable", (("step", ("sum", num(1), (("+", num(2)),)), ("kern", ("minus", num(3)))),)))

    def test_labels(self):
        self.reads("ligtable a: b kern 1;", ("ligtable", (("label", A), ("step", B, ("kern", num(1))))))
        self.reads("ligtable a: b: c: d =: 1;", ("ligtable", (
            ("label", A), ("label", B), ("label", C), ("step", D, ("ligature", "=:", num(1))))))
        self.reads("ligtable a: b kern 1, c kern 2, d: a: b |=: 3;", ("ligtable", (
            ("label", A), ("step", B, ("kern", num(1))), ("step", C, ("kern", num(2))),
            ("label", D), ("label", A), ("step", B, ("ligature", "|=:", num(3))))))

    def test_the_edge(self):
        edge = ("edge",)
        self.reads("ligtable edge kern 1;", ("ligtable", (("step", edge, ("kern", num(1))),)))
        self.reads("ligtable edge: edge: edge =: 1, edge: a kern 2;", ("ligtable", (
            ("label", edge), ("label", edge), ("step", edge, ("ligature", "=:", num(1))),
            ("label", edge), ("step", A, ("kern", num(2))))))
        self.fails("ligtable a =: ^edge;")
        self.fails("ligtable a kern ^edge;")
        self.fails("ligtable a + ^edge kern 1;")
        self.fails("ligtable (^edge) kern 1;")
        self.fails("ligtable edge ^+ 1 kern 1;")
        self.fails("ligtable edge^1 kern 1;")

    def test_invalid_tables(self):
        self.fails("ligtable^;")
        self.fails("ligtable a^;")
        self.fails("ligtable a^, b kern 1;")
        self.fails("ligtable a:^;")
        self.fails("ligtable a: ^kern 1;")
        self.fails("ligtable ^kern 1;")
        self.fails("ligtable a =:^;")
        self.fails("ligtable a kern^;")
        self.fails("ligtable a kern 1,^;")
        self.fails("ligtable a kern 1^: b kern 2;")
        self.fails("ligtable a =: b^: c kern 1;")
        self.fails("ligtable a =: b ^kern 1;")
        self.fails("ligtable a ^:= b;")
        self.fails("ligtable a ^b kern 1;")


class ForTest(StatementCase):
    def test_lists(self):
        self.reads("for i = a: endfor;", ("for", "i", ("list", (A,)), ()))
        self.reads("for i = a, b or c, 3: a = b; endfor;",
                   ("for", "i", ("list", (A, ("or", (B, C)), num(3))), (EQUATION,)))

    def test_ranges(self):
        self.reads("for i = a step b until c: endfor;", ("for", "i", ("range", A, B, C), ()))
        self.reads("for ijk = -1 step b + c until c < d: a = b; endchar; endfor;",
                   ("for", "ijk", ("range", ("minus", num(1)), ("sum", B, (("+", C),)), ("relation", "<", C, D)),
                    (EQUATION, ("endchar",))))

    def test_nested_loops(self):
        self.reads("for i = 1: for j = 2: a = b; endfor; endfor; a = b;",
                   ("for", "i", ("list", (num(1),)), (("for", "j", ("list", (num(2),)), (EQUATION,)),)), EQUATION)

    def test_invalid_loops(self):
        self.fails("for^")
        self.fails("for ^1 = a: endfor;")
        self.fails("for ^top = a: endfor;")
        self.fails("for i^1 = a: endfor;")
        self.fails("for i ^:= a: endfor;")
        self.fails("for i = ^: endfor;")
        self.fails("for i = a^; endfor;")
        self.fails("for i = a,^: endfor;")
        self.fails("for i = a, b ^step 1 until 2: endfor;")
        self.fails("for i = a step b^: endfor;")
        self.fails("for i = a step b^, c until d: endfor;")
        self.fails("for i = a ^until b: endfor;")
        self.fails("for i = a step b until c^, d: endfor;")
        self.fails("for i = a step b until c ^step d: endfor;")
        self.fails("for i = a: ^fi;")
        self.fails("for i = a:^")
        self.fails("for i = a: a = b^")
        self.fails("for i = a: a = b ^endfor;")
        self.fails("for i = a: endfor^")


class IfTest(StatementCase):
    def test_branches(self):
        self.reads("if a: fi;", ("if", ((A, ()),), None))
        self.reads("if a or b: a = b; fi;", ("if", ((("or", (A, B)), (EQUATION,)),), None))
        self.reads("if a: else: fi;", ("if", ((A, ()),), ()))
        self.reads("if a: endchar; else: a = b; a = b; fi;", ("if", ((A, (("endchar",),)),), (EQUATION, EQUATION)))
        self.reads("if a: elseif b: a = b; elseif c: else: endchar; fi;",
                   ("if", ((A, ()), (B, (EQUATION,)), (C, ())), (("endchar",),)))
        self.reads("if a: elseif b: fi;", ("if", ((A, ()), (B, ())), None))

    def test_nested_branches(self):
        self.reads("if a: if b: else: a = b; fi; else: if c: fi; fi;",
                   ("if", ((A, (("if", ((B, ()),), (EQUATION,)),)),), (("if", ((C, ()),), None),)))

    def test_invalid_branches(self):
        self.fails("if^")
        self.fails("if ^: fi;")
        self.fails("if a^; fi;")
        self.fails("if a ^= b: fi;")
        self.fails("if a: ^endfor;")
        self.fails("if a: else: ^;")
        self.fails("if a: else: ^elseif b: fi;")
        self.fails("if a: else: ^else: fi;")
        self.fails("if a: else ^a = b; fi;")
        self.fails("if a: elseif ^: fi;")
        self.fails("if a: a = b^")
        self.fails("if a: a = b ^fi;")
        self.fails("if a: fi^")


class DefTest(StatementCase):
    def test_definitions(self):
        self.reads("def f() = enddef;", ("def", "f", (), ()))
        self.reads("def f(a) = a = b; enddef;", ("def", "f", ("a",), (EQUATION,)))
        self.reads("def f(a, b, c, d, e, g) = enddef;", ("def", "f", ("a", "b", "c", "d", "e", "g"), ()))
        self.reads("def f(f, ff) = f(f); enddef;", ("def", "f", ("f", "ff"), (("call", "f", (var("f"),)),)))
        self.reads("def f() = def g(a) = endchar; enddef; enddef;",
                   ("def", "f", (), (("def", "g", ("a",), (("endchar",),)),)))

    def test_invalid_parameters(self):
        self.fails("def f(a, ^, b) = enddef;")
        self.fails("def f(a, ^a) = enddef;")
        self.fails("def f(a, b, c, d, ^a, e) = enddef;")
        self.fails("def f(a, b, c, d, e, ^e) = enddef;")
        self.fails("def f(a, b, c, d, e, g^, h) = enddef;")
        self.fails("def f(a, b, c, d, e, g^, a) = enddef;")
        self.fails("def f(a,^) = enddef;")
        self.fails("def f(a^1) = enddef;")
        self.fails("def f(^top) = enddef;")
        self.fails("def f(^1) = enddef;")
        self.fails("def f(a ^b) = enddef;")

    def test_invalid_definitions(self):
        self.fails("def^")
        self.fails("def ^1() = enddef;")
        self.fails("def ^cycle() = enddef;")
        self.fails("def f ^= enddef;")
        self.fails("def f^1() = enddef;")
        self.fails("def f() ^:= enddef;")
        self.fails("def f() ^a = b; enddef;")
        self.fails("def f() = ^endfor;")
        self.fails("def f() = enddef^")


class CallTest(StatementCase):
    def test_calls(self):
        self.reads("f();", ("call", "f", ()))
        self.reads("f (a);", ("call", "f", (A,)))
        self.reads("f(a, b or c, (a, b), 1, 2, 3, 4, 5);", (
            "call", "f", (A, ("or", (B, C)), ("pair", A, B), num(1), num(2), num(3), num(4), num(5))))
        self.reads("x(1);", ("call", "x", (num(1),)))

    def test_a_statement_that_begins_with_a_name_and_a_bracket_is_a_call(self):
        self.fails("f(a) ^= b;")
        self.fails("f(a) ^+ c = b;")
        self.fails("f() ^:= b;")
        self.fails("f1^(a);")
        self.fails("f[1]^(a);")
        self.fails("(f)^(a);")
        self.fails("a = f^(b);")

    def test_invalid_calls(self):
        self.fails("f(^")
        self.fails("f(^,);")
        self.fails("f(a,^);")
        self.fails("f(a^;")
        self.fails("f(a^];")
        self.fails("f(a ^b);")
        self.fails("f(a)^")


if __name__ == "__main__":
    unittest.main()
