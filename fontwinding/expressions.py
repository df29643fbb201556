"""The grammar of expressions: functions that read an expression and return its tree."""

from fontwinding.errors import InvalidSyntax
from fontwinding.lexer import number_of

RELATIONS = ("<", "<=", ">", ">=", "==", "<>")
SUM_SIGNS = ("+", "-")
PRODUCT_SIGNS = (
    "*", "/", "div", "mod",
    "shifted", "scaled", "xscaled", "yscaled", "slanted", "rotated", "transformed",
)
JOIN_SIGNS = ("--", "..")
CONSTANTS = ("true", "false", "pix", "identity", "whatever")

# The functions and the numbers of their arguments.
FUNCTIONS = {
    "floor": 1, "round": 1, "xpart": 1, "ypart": 1, "known": 1, "length": 1, "reverse": 1, "area": 1, "inverse": 1,
    "top": 1, "bot": 1, "lft": 1, "rt": 1, "min": 2, "max": 2, "dot": 2, "point": 2, "winding": 2,
    "way": 3, "subpath": 3,
}


def read_expression(reader):
    """An expression: conjunctions with `or` between them."""
    operands = [read_conjunction(reader)]
    while reader.skips("or"):
        operands.append(read_conjunction(reader))
    return chain_of("or", operands)


def read_conjunction(reader):
    """A conjunction: negations with `and` between them."""
    operands = [read_negation(reader)]
    while reader.skips("and"):
        operands.append(read_negation(reader))
    return chain_of("and", operands)


def chain_of(word, operands):
    """The tree of a chain of operands, the only operand itself if there is one."""
    if len(operands) == 1:
        return operands[0]
    return (word, tuple(operands))


def read_negation(reader):
    """A negation: a relation, perhaps with `not` before it."""
    if reader.skips("not"):
        return ("not", read_relation(reader))
    return read_relation(reader)


def read_relation(reader):
    """A relation: one joined expression, or two with a sign between them."""
    left = read_joined(reader)
    if reader.next_text() not in RELATIONS:
        return left
    sign = reader.take()
    return ("relation", sign, left, read_joined(reader))


def read_joined(reader):
    """A joined expression: sums with joins between them, perhaps a cycle."""
    items = [read_sum(reader)]
    joins = []
    is_cycle = False
    while reader.next_text() in JOIN_SIGNS and not is_cycle:
        joins.append(read_join(reader))
        is_cycle = reader.skips("cycle")
        if not is_cycle:
            items.append(read_sum(reader))
    if not joins:
        return items[0]
    return ("join", tuple(items), tuple(joins), is_cycle)


def read_join(reader):
    """A join: a line, or a curve with or without a tension or controls."""
    if reader.take() == "--":
        return ("line",)
    if reader.skips("tension"):
        tension = read_sum(reader)
        reader.expect("..")
        return ("smooth", tension)
    if reader.skips("controls"):
        first = second = read_sum(reader)
        if reader.skips("and"):
            second = read_sum(reader)
        reader.expect("..")
        return ("curve", first, second)
    return ("smooth", None)


def read_sum(reader):
    """A sum: products with `+` and `-` between them."""
    first = read_product(reader)
    rest = []
    while reader.next_text() in SUM_SIGNS:
        sign = reader.take()
        rest.append((sign, read_product(reader)))
    if not rest:
        return first
    return ("sum", first, tuple(rest))


def read_product(reader):
    """A product: signed parts with `*`, `/`, `div`, `mod` and movers between them."""
    first = read_signed(reader)
    rest = []
    while reader.next_text() in PRODUCT_SIGNS:
        sign = reader.take()
        rest.append((sign, read_signed(reader)))
    if not rest:
        return first
    return ("product", first, tuple(rest))


def read_signed(reader):
    """A signed part: a primary, perhaps with `-` before it."""
    if reader.skips("-"):
        return ("minus", read_primary(reader))
    return read_primary(reader)


def read_primary(reader):
    """A primary: a number, a constant, a variable, a function, or what stands in brackets."""
    if reader.next_kind() == "number":
        return ("number", number_of(reader.take()))
    if reader.next_kind() == "name":
        return read_variable(reader)
    if reader.skips("("):
        return read_bracket(reader)
    if reader.next_text() in CONSTANTS:
        return ("constant", reader.take())
    if reader.next_text() in FUNCTIONS:
        word = reader.take()
        return ("call", word, read_arguments(reader, FUNCTIONS[word]))
    raise InvalidSyntax(reader.place())


def read_bracket(reader):
    """An expression or a pair, behind the opening bracket."""
    first = read_expression(reader)
    if reader.skips(","):
        first = ("pair", first, read_expression(reader))
    reader.expect(")")
    return first


def read_variable(reader):
    """A variable: a name, perhaps with digits or an expression in brackets as its subscript."""
    name = reader.take_name()
    subscript = None
    if reader.next_kind() == "number":
        subscript = read_digits(reader)
    elif reader.skips("["):
        subscript = read_expression(reader)
        reader.expect("]")
    return ("variable", name, subscript)


def read_digits(reader):
    """A number that is a subscript: its token has no dot, even if the number is whole."""
    if "." in reader.next_text():
        raise InvalidSyntax(reader.place())
    return ("number", number_of(reader.take()))


def read_arguments(reader, count):
    """This many expressions in brackets, with commas between them."""
    reader.expect("(")
    arguments = [read_expression(reader)]
    while len(arguments) < count:
        reader.expect(",")
        arguments.append(read_expression(reader))
    reader.expect(")")
    return tuple(arguments)


def read_expressions(reader):
    """A list of one or more expressions with commas between them."""
    found = [read_expression(reader)]
    while reader.skips(","):
        found.append(read_expression(reader))
    return found
