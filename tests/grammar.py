"""The grammar of points 33 and 34 as a table, and a recognizer that tells which tokens may come next.

The recognizer is Earley's: it knows nothing of how the program reads a text.
"""

GRAMMAR = '''
program     = { statement ";" }
statement   = "declare" kind NAME { "," NAME }
            | variable ":=" expression
            | expression "=" expression
            | ( "fill" | "unfill" | "draw" | "undraw" | "pickup" | "italic" | "show" ) expression
            | "beginchar" "(" expression "," expression "," expression "," expression ")"
            | "endchar"
            | "ligtable" item { "," item }
            | "for" NAME "=" values ":" program "endfor"
            | "if" expression ":" program { "elseif" expression ":" program } [ "else" ":" program ] "fi"
            | "def" NAME "(" [ parameters ] ")" "=" program "enddef"
            | NAME "(" [ expression { "," expression } ] ")"
parameters  = NAME [ "," NAME [ "," NAME [ "," NAME [ "," NAME [ "," NAME ] ] ] ] ]
kind        = "numeric" | "pair" | "path" | "transform"
values      = expression { "," expression } | expression "step" expression "until" expression
item        = { code ":" } code action
action      = "kern" expression | ligature expression
ligature    = "=:" | "|=:" | "|=:>" | "=:|" | "=:|>" | "|=:|" | "|=:|>" | "|=:|>>"
code        = expression | "edge"
expression  = conjunction { "or" conjunction }
conjunction = negation { "and" negation }
negation    = [ "not" ] relation
relation    = joined [ ( "<" | "<=" | ">" | ">=" | "==" | "<>" ) joined ]
joined      = sum { join sum } [ join "cycle" ]
join        = "--" | ".." | ".." "tension" sum ".." | ".." "controls" sum [ "and" sum ] ".."
sum         = product { ( "+" | "-" ) product }
product     = signed { ( "*" | "/" | "div" | "mod" | mover ) signed }
mover       = "shifted" | "scaled" | "xscaled" | "yscaled" | "slanted" | "rotated" | "transformed"
signed      = [ "-" ] primary
primary     = DIGITS | DECIMAL | constant | variable | "(" expression ")" | "(" expression "," expression ")"
            | one "(" expression ")"
            | two "(" expression "," expression ")"
            | three "(" expression "," expression "," expression ")"
variable    = NAME [ DIGITS | "[" expression "]" ]
constant    = "true" | "false" | "pix" | "identity" | "whatever"
one         = "floor" | "round" | "xpart" | "ypart" | "known" | "length" | "reverse" | "area" | "inverse"
            | "top" | "bot" | "lft" | "rt"
two         = "min" | "max" | "dot" | "point" | "winding"
three       = "way" | "subpath"
'''
CLASSES = ("NAME", "DIGITS", "DECIMAL")


def rules_of(text):
    """The grammar as a dict of alternatives, each a tuple of symbols; a terminal begins with a quote."""
    rules = {}
    heads = []
    for row in text.strip().split("\n"):
        if not row.startswith(" "):
            heads.append(row.split()[0])
            row = row.split("=", 1)[1]
            rules[heads[-1]] = []
        rules[heads[-1]].extend(row.split())
    found = {}
    for head in heads:
        words = rules[head][::-1]
        found[head] = alternatives(words, found)
        assert not words, head
    return found


def alternatives(words, rules):
    """Reads alternatives from the end of the reversed words; braces and brackets get rules of their own."""
    found = [()]
    while words and words[-1] not in (")", "]", "}"):
        word = words.pop()
        if word == "|":
            found.append(())
        elif word in ("(", "[", "{"):
            name = f"{word}{len(rules)}"
            rules[name] = None
            inner = alternatives(words, rules)
            words.pop()
            if word == "[":
                inner = inner + [()]
            if word == "{":
                inner = [alternative + (name,) for alternative in inner] + [()]
            rules[name] = inner
            found[-1] += (name,)
        else:
            found[-1] += (word,)
    return found


RULES = rules_of(GRAMMAR)


def empty_symbols():
    """The symbols that may stand for no token at all."""
    found = set()
    while True:
        more = {head for head, choices in RULES.items() if any(all(s in found for s in c) for c in choices)}
        if more == found:
            return found
        found = more


EMPTY = empty_symbols()


class Recognizer:
    """What has been read of a program; a token is one of the classes, or its text in quotes."""

    def __init__(self, start="program"):
        self.start = start
        self.columns = [self.completed({(start, choice, 0, 0) for choice in RULES[start]}, 0)]

    def completed(self, column, at):
        waiting = list(column)
        while waiting:
            head, choice, dot, origin = waiting.pop()
            if dot == len(choice):
                source = column if origin == at else self.columns[origin]
                more = [(h, c, d + 1, o) for h, c, d, o in source if d < len(c) and c[d] == head]
            elif choice[dot] in RULES:
                more = [(choice[dot], c, 0, at) for c in RULES[choice[dot]]]
                if choice[dot] in EMPTY:
                    more.append((head, choice, dot + 1, origin))
            else:
                more = []
            for entry in more:
                if entry not in column:
                    column.add(entry)
                    waiting.append(entry)
        return column

    def expected(self):
        """The tokens that some valid program has next."""
        return sorted({c[d] for _, c, d, _ in self.columns[-1] if d < len(c) and c[d] not in RULES})

    def is_complete(self):
        """True if what has been read is a valid program."""
        return any(h == self.start and d == len(c) and o == 0 for h, c, d, o in self.columns[-1])

    def read(self, token):
        """Reads a token, which is one of the expected ones."""
        moved = {(h, c, d + 1, o) for h, c, d, o in self.columns[-1] if d < len(c) and c[d] == token}
        assert moved, token
        self.columns.append(self.completed(moved, len(self.columns)))
