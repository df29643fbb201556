"""The grammar of statements, and the tree of a program."""

from fontwinding.errors import InvalidSyntax, TooDeep
from fontwinding.expressions import read_arguments, read_expression, read_expressions
from fontwinding.lexer import written_tokens
from fontwinding.reader import Reader

MOST_OPENED = 16
MOST_PARAMETERS = 6
OPENING = ("(", "[", "if", "for", "def")
CLOSING = (")", "]", "fi", "endfor", "enddef")
KINDS = ("numeric", "pair", "path", "transform")
LIGATURES = ("=:", "|=:", "|=:>", "=:|", "=:|>", "|=:|", "|=:|>", "|=:|>>")
# The end of the text is a token without characters.
END = ("",)


def parse(text):
    """The tree of a program, a tuple of statements."""
    found = written_tokens(text)
    check_depth(found)
    return read_program(Reader(found, len(text)), END)


def check_depth(found):
    """Refuses tokens of which too many brackets and blocks are open at the same time."""
    depth = 0
    for token in found:
        if token[1] in OPENING:
            depth += 1
        elif token[1] in CLOSING:
            depth = max(depth - 1, 0)
        if depth > MOST_OPENED:
            raise TooDeep(f"at most {MOST_OPENED} brackets and blocks may be open")


def read_program(reader, ends):
    """Statements, each with its semicolon, up to one of the tokens that may end them."""
    statements = []
    while reader.next_text() not in ends:
        statements.append(read_statement(reader))
        reader.expect(";")
    return tuple(statements)


def read_statement(reader):
    """A statement, without its semicolon."""
    if reader.next_text() in STATEMENTS:
        read = STATEMENTS[reader.next_text()]
        return read(reader)
    if reader.next_kind() != "name":
        return read_equation(reader, read_expression(reader))
    if reader.text_after() == "(":
        return ("call", reader.take_name(), read_call_arguments(reader))
    left = read_expression(reader)
    # It begins with a name, so a variable here is not in brackets.
    if left[0] == "variable" and reader.skips(":="):
        return ("assign", left, read_expression(reader))
    return read_equation(reader, left)


def read_equation(reader, left):
    """An equation behind its left side."""
    reader.expect("=")
    return ("equate", left, read_expression(reader))


def read_call_arguments(reader):
    """The expressions in the brackets of a call, perhaps none."""
    reader.expect("(")
    if reader.skips(")"):
        return ()
    found = read_expressions(reader)
    reader.expect(")")
    return tuple(found)


def read_declaration(reader):
    """A declaration of names."""
    reader.expect("declare")
    kind = reader.take_one_of(KINDS)
    names = [reader.take_name()]
    while reader.skips(","):
        names.append(reader.take_name())
    return ("declare", kind, tuple(names))


def read_simple(reader):
    """A statement of a word and one expression."""
    return (reader.take(), read_expression(reader))


def read_beginchar(reader):
    """The statement that begins a character."""
    return (reader.take(),) + read_arguments(reader, 4)


def read_endchar(reader):
    """The statement that ends a character."""
    return (reader.take(),)


def read_ligtable(reader):
    """A table of labels and steps."""
    reader.expect("ligtable")
    items = read_item(reader)
    while reader.skips(","):
        items.extend(read_item(reader))
    return ("ligtable", tuple(items))


def read_item(reader):
    """The list of some labels and the step behind them."""
    items = []
    code = read_code(reader)
    while reader.skips(":"):
        items.append(("label", code))
        code = read_code(reader)
    items.append(("step", code, read_action(reader)))
    return items


def read_code(reader):
    """The code of a label or a step."""
    if reader.skips("edge"):
        return ("edge",)
    return read_expression(reader)


def read_action(reader):
    """A kern or a ligature."""
    if reader.skips("kern"):
        return ("kern", read_expression(reader))
    sign = reader.take_one_of(LIGATURES)
    return ("ligature", sign, read_expression(reader))


def read_for(reader):
    """A loop."""
    reader.expect("for")
    name = reader.take_name()
    reader.expect("=")
    values = read_values(reader)
    reader.expect(":")
    body = read_program(reader, ("endfor",))
    reader.expect("endfor")
    return ("for", name, values, body)


def read_values(reader):
    """The values of a loop: a list, or a range with a step."""
    found = read_expressions(reader)
    if len(found) > 1 or not reader.skips("step"):
        return ("list", tuple(found))
    step = read_expression(reader)
    reader.expect("until")
    return ("range", found[0], step, read_expression(reader))


def read_if(reader):
    """A choice between branches."""
    reader.expect("if")
    branches = [read_branch(reader)]
    while reader.skips("elseif"):
        branches.append(read_branch(reader))
    otherwise = None
    if reader.skips("else"):
        reader.expect(":")
        otherwise = read_program(reader, ("fi",))
    reader.expect("fi")
    return ("if", tuple(branches), otherwise)


def read_branch(reader):
    """A condition and its body."""
    condition = read_expression(reader)
    reader.expect(":")
    return (condition, read_program(reader, ("elseif", "else", "fi")))


def read_definition(reader):
    """A definition."""
    reader.expect("def")
    name = reader.take_name()
    reader.expect("(")
    parameters = ()
    if not reader.skips(")"):
        parameters = read_parameters(reader)
        reader.expect(")")
    reader.expect("=")
    body = read_program(reader, ("enddef",))
    reader.expect("enddef")
    return ("def", name, parameters, body)


def read_parameters(reader):
    """One or more different names, at most six."""
    names = [reader.take_name()]
    while len(names) < MOST_PARAMETERS and reader.skips(","):
        if reader.next_text() in names:
            raise InvalidSyntax(reader.place())
        names.append(reader.take_name())
    return tuple(names)


# The functions that read the statements, by the words with which these begin.
STATEMENTS = {
    "declare": read_declaration,
    "fill": read_simple,
    "unfill": read_simple,
    "draw": read_simple,
    "undraw": read_simple,
    "pickup": read_simple,
    "italic": read_simple,
    "show": read_simple,
    "beginchar": read_beginchar,
    "endchar": read_endchar,
    "ligtable": read_ligtable,
    "for": read_for,
    "if": read_if,
    "def": read_definition,
}
