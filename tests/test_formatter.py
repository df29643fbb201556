"""Point 37: the text form of a tree."""

import unittest
from random import Random

from fontwinding.errors import FontError
from fontwinding.formatter import format_program
from fontwinding.lexer import tokens
from fontwinding.statements import parse

ONE = "floor round xpart ypart known length reverse area inverse top bot lft rt".split()
TWO = "min max dot point winding".split()
THREE = "way subpath".split()
MOVERS = "shifted scaled xscaled yscaled slanted rotated transformed".split()
SIGNS = "=: |=: |=:> =:| =:|> |=:| |=:|> |=:|>>".split()
CONSTANTS = "true false pix identity whatever".split()


class Trees:
    """Any trees that can be read from a text."""

    def __init__(self, seed):
        self.chance = Random(seed)

    def name(self):
        return self.chance.choice(("a", "b", "xy", "endq", "zzzzzzzzzzzzzzzz"))

    def names(self, least, most):
        return tuple(self.chance.sample("a b c dd ee x y".split(), self.chance.randint(least, most)))

    def several(self, make, depth, least=1, most=3):
        return tuple(make(depth) for _ in range(self.chance.randint(least, most)))

    def number(self):
        return ("number", self.chance.choice(((0, 1), (7, 1), (120, 1), (1, 2), (5, 2), (1, 1000), (157, 50))))

    def expression(self, depth):
        if depth <= 0:
            return self.chance.choice((
                self.number(), ("constant", self.chance.choice(CONSTANTS)), ("variable", self.name(), None)))
        make = self.chance.choice((
            self.variable, self.pair, self.call, self.minus, self.negation, self.operations, self.operations,
            self.joined, self.joined, self.relation, self.truth))
        return make(depth - 1)

    def variable(self, depth):
        make = self.chance.choice((lambda d: None, lambda d: self.number(), self.expression))
        return ("variable", self.name(), make(depth))

    def pair(self, depth):
        return ("pair", self.expression(depth), self.expression(depth))

    def call(self, depth):
        words, many = self.chance.choice(((ONE, 1), (TWO, 2), (THREE, 3)))
        return ("call", self.chance.choice(words), self.several(self.expression, depth, many, many))

    def minus(self, depth):
        return ("minus", self.expression(depth))

    def negation(self, depth):
        return ("not", self.expression(depth))

    def operations(self, depth):
        word, signs = self.chance.choice((("sum", ["+", "-"]), ("product", ["*", "/", "div", "mod"] + MOVERS)))
        rest = self.several(lambda d: (self.chance.choice(signs), self.expression(d)), depth, 1, 3)
        return (word, self.expression(depth), rest)

    def join(self, depth):
        kind = self.chance.choice(("line", "plain", "smooth", "single", "curve"))
        if kind == "line":
            return ("line",)
        if kind == "plain":
            return ("smooth", None)
        one = self.expression(depth)
        if kind == "smooth":
            return ("smooth", one)
        return ("curve", one, one if kind == "single" else self.expression(depth))

    def joined(self, depth):
        is_cycle = self.chance.choice((False, True))
        joins = self.several(self.join, depth, 1, 3)
        items = self.several(self.expression, depth, len(joins) + 1 - is_cycle, len(joins) + 1 - is_cycle)
        return ("join", items, joins, is_cycle)

    def relation(self, depth):
        sign = self.chance.choice(("<", "<=", ">", ">=", "==", "<>"))
        return ("relation", sign, self.expression(depth), self.expression(depth))

    def truth(self, depth):
        return (self.chance.choice(("and", "or")), self.several(self.expression, depth, 2, 3))

    def program(self, depth):
        return self.several(self.statement, depth, 0, 3)

    def statement(self, depth):
        makers = [self.declaration, self.assignment, self.equation, self.simple, self.beginchar, self.ligtable,
                  self.statement_call, lambda d: ("endchar",)]
        if depth > 0:
            makers += [self.loop, self.branches, self.definition] * 2
        return self.chance.choice(makers)(depth)

    def declaration(self, depth):
        return ("declare", self.chance.choice(("numeric", "pair", "path", "transform")), self.names(1, 3))

    def assignment(self, depth):
        return ("assign", self.variable(depth), self.expression(depth))

    def equation(self, depth):
        return ("equate", self.expression(depth), self.expression(depth))

    def simple(self, depth):
        return (self.chance.choice("fill unfill draw undraw pickup italic show".split()), self.expression(depth))

    def beginchar(self, depth):
        return ("beginchar",) + self.several(self.expression, depth, 4, 4)

    def ligtable(self, depth):
        return ("ligtable", sum(self.several(self.item, depth), ()))

    def statement_call(self, depth):
        return ("call", self.name(), self.several(self.expression, depth, 0, 3))

    def loop(self, depth):
        values = ("list", self.several(self.expression, depth))
        if self.chance.choice((False, True)):
            values = ("range",) + self.several(self.expression, depth, 3, 3)
        return ("for", self.name(), values, self.program(depth - 1))

    def branches(self, depth):
        found = self.several(lambda d: (self.expression(d), self.program(d)), depth - 1)
        return ("if", found, self.program(depth - 1) if self.chance.choice((False, True)) else None)

    def definition(self, depth):
        return ("def", self.name(), self.names(0, 6), self.program(depth - 1))

    def code(self, depth):
        return ("edge",) if self.chance.choice((False, True)) else self.expression(depth)

    def item(self, depth):
        labels = self.several(lambda d: ("label", self.code(d)), depth, 0, 2)
        action = self.chance.choice((("kern",), ("ligature", self.chance.choice(SIGNS)))) + (self.expression(depth),)
        return labels + (("step", self.code(depth), action),)


def written(text):
    """The tokens of a text as they are written in it."""
    told = tokens(text)
    ends = [position for _, _, position in told[1:]] + [len(text)]
    return [(kind, text[start:end].strip()) for (kind, _, start), end in zip(told, ends)]


def spaced(text):
    """The tokens of a text with the spaces and newlines of point 37 between them, token by token."""
    found, last, first, minus, opener = "", ("", ""), "", False, ""
    for kind, word in written(text):
        found += gap(last, (kind, word), first, minus) + word
        is_operand = last[0] in ("number", "name") or last[1] in (")", "]", "cycle", *CONSTANTS)
        minus = word == "-" and not is_operand
        if last[1] in ("", ";") or (last[1] == ":" and first not in ("ligtable",)) or opener == "def=":
            first = word
        opener = "def=" if first == "def" and word == "=" else ""
        last = (kind, word)
    return found + ("\n" if last[1] == ";" else "")


def gap(last, token, first, minus):
    """What stands between two tokens; `first` is the first token of the statement or head."""
    kind, word = last
    if kind == "":
        return ""
    if word == ";" or (word == ":" and first != "ligtable") or (word == "=" and first == "def"):
        return "\n"
    if token[1] in (";", ",", ")", "]", ":") or word in ("(", "[") or minus:
        return ""
    heads = ONE + TWO + THREE + ["beginchar"]
    if token[1] in ("(", "[") and (kind == "name" or word in heads):
        return ""
    if kind == "name" and token[0] == "number":
        return ""
    return " "


class FormatterCase(unittest.TestCase):
    def forms(self, text, form):
        """The text form of what is read from a text; it is its own text form."""
        tree = parse(text)
        self.assertEqual(format_program(tree), form)
        self.assertEqual(parse(form), tree)

    def shows(self, text, form):
        """The same for an expression that stands alone."""
        self.forms(f"show {text};", f"show {form};\n")

    def stays(self, *texts):
        for text in texts:
            self.shows(text, text)


class ExpressionTest(FormatterCase):
    def test_numbers(self):
        for text, form in (("0", "0"), ("007", "7"), ("100", "100"), ("0.50", "0.5"), ("000.5", "0.5"), ("1.0", "1"),
                           ("12.340", "12.34"), ("0.001", "0.001"), ("10.010", "10.01"), ("0.0", "0"),
                           ("999999999999999", "999999999999999"), ("0.00000000000001", "0.00000000000001"),
                           ("9.99999999999999", "9.99999999999999"), ("0.0625", "0.0625"), ("3.75", "3.75")):
            self.shows(text, form)

    def test_variables(self):
        self.shows("a", "a")
        self.shows("a 1", "a1")
        self.shows("a[1]", "a1")
        self.shows("a[ 007 ]", "a7")
        self.shows("a[2.0]", "a2")
        self.shows("a[0.50]", "a[0.5]")
        self.shows("a [ b+1 ]", "a[b + 1]")
        self.shows("a[(b)]", "a[b]")
        self.shows("a[(b,c)]", "a[(b, c)]")
        self.shows("a[-1]", "a[-1]")
        self.shows("a[b[c[1]]]", "a[b[c1]]")
        self.shows("a[b or c]", "a[b or c]")

    def test_pairs_and_functions(self):
        self.shows("( a,b )", "(a, b)")
        self.shows("((a),(b or c))", "(a, b or c)")
        self.shows("((a,b),(c,d))", "((a, b), (c, d))")
        self.shows("floor (a)", "floor(a)")
        self.shows("floor((a))", "floor(a)")
        self.shows("floor((a,b))", "floor((a, b))")
        self.shows("min( (a<b),(c--d) )", "min(a < b, c -- d)")
        self.shows("way(a,b or c,-d)", "way(a, b or c, -d)")
        for word in ONE:
            self.stays(f"{word}(a)")
        for word in TWO:
            self.stays(f"{word}(a, b)")
        for word in THREE:
            self.stays(f"{word}(a, b, c)")
        self.stays(*CONSTANTS)

    def test_minus_and_not(self):
        self.shows("- a", "-a")
        self.shows("-(a)", "-a")
        self.shows("-(-a)", "-(-a)")
        self.shows("- ( a,b )", "-(a, b)")
        self.shows("-(a1)", "-a1")
        self.stays("-(a * b)", "-a * b", "-(a + b)", "-(a -- b)", "-(not a)", "-floor(a)", "-(a < b)", "-2.5")
        self.shows("(-a)*b", "-a * b")
        self.shows("not(a)", "not a")
        self.shows("not(a<b)", "not a < b")
        self.stays("not (not a)", "not (a and b)", "not (a or b)", "not -a", "not a -- cycle", "not (a, b)")

    def test_products_and_sums(self):
        self.shows("a*b/c", "a * b / c")
        self.shows("(a*b)/c", "(a * b) / c")
        self.stays("a * (b * c)", "a * (b + c)", "(a + b) * c", "a * -b", "-a * -b", "a div b mod c", "a * (b, c)")
        for word in MOVERS:
            self.stays(f"a {word} b {word} -c")
        self.stays("(a, b) shifted (c, d)", "(a -- b) scaled 2", "a -- b scaled 2")
        self.shows("a+b-c", "a + b - c")
        self.shows("(a+b)-c", "(a + b) - c")
        self.stays("a - (b + c)", "a - -b", "-a - b", "a + (b -- c)", "(not a) + b")
        self.shows("a-(b*c)", "a - b * c")
        self.shows("(a*b)-c", "a * b - c")
        self.shows("(a)+(b)", "a + b")

    def test_relations_and_truth(self):
        for sign in ("<", "<=", ">", ">=", "==", "<>"):
            self.shows(f"a{sign}b", f"a {sign} b")
            self.stays(f"(a {sign} b) {sign} c", f"a {sign} (b {sign} c)", f"(not a) {sign} b", f"a {sign} (not b)",
                       f"a {sign} (b or c)")
        self.shows("(a+b)<(c--d)", "a + b < c -- d")
        self.shows("(a<b)and(not c)or d", "a < b and not c or d")
        self.shows("(a and b)or(c and d)", "a and b or c and d")
        self.stays("(a or b) and c", "a and (b or c)", "(a and b) and c", "a and (b and c)", "(a or b) or c",
                   "a or (b or c)", "a or b or c", "a and b and c")

    def test_joins(self):
        self.shows("a--b..c", "a -- b .. c")
        self.shows("1..2", "1 .. 2")
        self.shows("a..tension 2..b", "a .. tension 2 .. b")
        self.shows("a..tension 1..b", "a .. tension 1 .. b")
        self.shows("a..controls b..c", "a .. controls b .. c")
        self.shows("a..controls b and c..d", "a .. controls b and c .. d")
        self.shows("a..controls b and b..c", "a .. controls b .. c")
        self.shows("a..controls (b) and(b) .. cycle", "a .. controls b .. cycle")
        self.shows("a..controls b+c and b*c..d", "a .. controls b + c and b * c .. d")
        self.stays("a -- cycle", "a .. b -- cycle", "(a -- b) -- c", "a -- (b -- c)", "a .. tension (b -- c) .. d",
                   "a .. controls (b < c) and (not d) .. cycle", "(a < b) -- (c and d)", "a + b -- c * d .. -a",
                   "(a -- cycle) -- b", "(1, 2) -- (3, 4) -- cycle", "a -- -b")


class StatementTest(FormatterCase):
    def test_examples_of_the_interface(self):
        self.assertEqual(format_program(parse("if a<b: x1=(2*y); fi;")), 'if a < b:\nx1 = 2 * y;\nfi;\n')

    def test_programs(self):
        self.forms("", "")
        self.forms(" \n ", "")
        self.forms("a=b;c=d;", "a = b;\nc = d;\n")

    def test_simple_statements(self):
        self.forms("declare pair a,b , c ;", "declare pair a, b, c;\n")
        self.forms("a:=(b);", "a := b;\n")
        self.forms("a[1]:=b or c;", "a1 := b or c;\n")
        self.forms("a[b]:=c;", "a[b] := c;\n")
        self.forms("(a)=(b or c);", "a = b or c;\n")
        self.forms("(a or b)=(c<d);", "a or b = c < d;\n")
        self.forms("(a,b)=(c,d);", "(a, b) = (c, d);\n")
        self.forms("-(a,b)=c;", "-(a, b) = c;\n")
        for word in "fill unfill draw undraw pickup italic show".split():
            self.forms(f"{word}(a);", f"{word} a;\n")
            self.forms(f"{word}(a,b)--cycle;", f"{word} (a, b) -- cycle;\n")
        self.forms("beginchar (65,1, (2) ,a or b);", "beginchar(65, 1, 2, a or b);\n")
        self.forms("endchar ;", "endchar;\n")
        self.forms("f ( );", "f();\n")
        self.forms("f (a,(b),(c,d));", "f(a, b, (c, d));\n")

    def test_ligtables(self):
        self.forms("ligtable a:b=:c;", "ligtable a: b =: c;\n")
        for sign in SIGNS:
            self.forms(f"ligtable a{sign}b;", f"ligtable a {sign} b;\n")
        self.forms("ligtable 65:edge:a1 kern(-2),66:edge|=:|>>(1+2),c kern 0.5;",
                   "ligtable 65: edge: a1 kern -2, 66: edge |=:|>> 1 + 2, c kern 0.5;\n")
        self.forms("ligtable (a or b) : (a<b) kern (a--b);", "ligtable a or b: a < b kern a -- b;\n")

    def test_loops(self):
        self.forms("for i=1:endfor;", "for i = 1:\nendfor;\n")
        self.forms("for i=1,(a or b),(c,d):a=b;endchar;endfor;",
                   "for i = 1, a or b, (c, d):\na = b;\nendchar;\nendfor;\n")
        self.forms("for i=1 step(2) until a or b:a=b;endfor;", "for i = 1 step 2 until a or b:\na = b;\nendfor;\n")
        self.forms("for i=1:for j=2:a=b;endfor;endfor;", "for i = 1:\nfor j = 2:\na = b;\nendfor;\nendfor;\n")

    def test_branches(self):
        self.forms("if a:fi;", "if a:\nfi;\n")
        self.forms("if a:else:fi;", "if a:\nelse:\nfi;\n")
        self.forms("if (a or b):a=b;elseif(c):elseif d:a=b;a=b;else:endchar;fi;",
                   "if a or b:\na = b;\nelseif c:\nelseif d:\na = b;\na = b;\nelse:\nendchar;\nfi;\n")

    def test_definitions(self):
        self.forms("def f()=enddef;", "def f() =\nenddef;\n")
        self.forms("def f (a,b , c)=a=b;f(a);enddef;a=b;", "def f(a, b, c) =\na = b;\nf(a);\nenddef;\na = b;\n")
        self.forms("def f()=def g(a)=enddef;enddef;", "def f() =\ndef g(a) =\nenddef;\nenddef;\n")


class AnyTreesTest(FormatterCase):
    def brackets(self, text):
        """The places of each pair of brackets that is part of an expression in brackets."""
        open_ones, found = [], []
        for at, sign in enumerate(text):
            if sign in "([":
                open_ones.append(at)
            elif sign in ")]":
                found.append((open_ones.pop(), at))
        return found

    def test_the_text_form_is_read_as_the_tree_with_its_spaces(self):
        trees = Trees(37)
        for _ in range(600):
            tree = trees.program(trees.chance.randint(0, 4))
            text = format_program(tree)
            self.assertIs(type(text), str)
            if len(text) > 6000:
                continue
            try:
                again = parse(text)
            except FontError as error:
                self.fail(f"{error!r}: {text}")
            self.assertEqual(again, tree)
            self.assertEqual(format_program(again), text)
            self.assertEqual(spaced(text), text)

    def test_no_brackets_that_could_be_left_out(self):
        trees = Trees(38)
        removed = 0
        for _ in range(400):
            tree = (("show", trees.expression(trees.chance.randint(1, 3))),)
            text = format_program(tree)
            if len(text) > 1500:
                continue
            for start, end in self.brackets(text):
                less = text[:start] + " " + text[start + 1:end] + " " + text[end + 1:]
                removed += 1
                try:
                    self.assertNotEqual(parse(less), tree, text)
                except FontError:
                    pass
        self.assertGreater(removed, 500)

    def test_all_pairs_of_operators(self):
        whole = ("variable", "a", None)
        makers = [
            lambda t: ("minus", t), lambda t: ("not", t), lambda t: ("sum", t, (("+", whole),)),
            lambda t: ("sum", whole, (("-", t),)), lambda t: ("product", t, (("*", whole),)),
            lambda t: ("product", whole, (("shifted", t),)), lambda t: ("relation", "<", t, whole),
            lambda t: ("relation", "<>", whole, t), lambda t: ("and", (t, whole)), lambda t: ("and", (whole, t)),
            lambda t: ("or", (t, whole)), lambda t: ("or", (whole, t)), lambda t: ("pair", t, whole),
            lambda t: ("pair", whole, t), lambda t: ("call", "top", (t,)), lambda t: ("variable", "x", t),
            lambda t: ("join", (t, whole), (("line",),), False), lambda t: ("join", (whole, t), (("line",),), False),
            lambda t: ("join", (t,), (("smooth", None),), True),
            lambda t: ("join", (whole, whole), (("smooth", t),), False),
            lambda t: ("join", (whole, whole), (("curve", t, t),), False),
            lambda t: ("join", (whole, whole), (("curve", whole, t),), False)]
        for first in makers:
            for second in makers:
                for third in makers:
                    tree = (("show", first(second(third(("number", (1, 1)))))),)
                    text = format_program(tree)
                    self.assertEqual(parse(text), tree, text)
                    self.assertEqual(spaced(text), text)

    def test_the_greatest_depth(self):
        expression = "b + c"
        for _ in range(16):
            expression = f"a or a and not a < a .. controls a and a + a * -({expression}) .. a"
        self.stays(expression)
        blocks = "a = b;\n"
        for _ in range(16):
            blocks = f"if a:\nelseif b:\n{blocks}else:\nfi;\n"
        self.forms(blocks, blocks)

    def test_trees_of_texts_that_would_be_too_long(self):
        tree = parse("show a + b * c;") * 5000
        self.assertEqual(format_program(tree), "show a + b * c;\n" * 5000)
        wide = (("show", ("sum", ("number", (1, 2)), (("-", ("number", (3, 1))),) * 5000)),)
        self.assertEqual(format_program(wide), "show 0.5" + " - 3" * 5000 + ";\n")


if __name__ == "__main__":
    unittest.main()
