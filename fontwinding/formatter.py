"""The text form of a program."""

# Where the grammar asks for an expression of one of these kinds, it reads those of the same level
# and of higher levels without brackets.
LEVELS = {
    "or": 0,
    "and": 1,
    "not": 2,
    "relation": 3,
    "join": 4,
    "sum": 5,
    "product": 6,
    "minus": 7,
    "number": 8,
    "constant": 8,
    "variable": 8,
    "pair": 8,
    "call": 8,
}

# What the grammar asks for as the operands of these.
OPERANDS = {"or": "and", "and": "not", "sum": "product", "product": "minus"}


def format_program(tree):
    """The text form of the tree of a program or of a body."""
    return "".join([statement_text(statement) + ";\n" for statement in tree])


def statement_text(tree):
    """The text of a statement, without its semicolon."""
    write = STATEMENT_WRITERS[tree[0]]
    return write(tree)


def expression_text(tree):
    """The text of an expression that stands alone."""
    write = EXPRESSION_WRITERS[tree[0]]
    return write(tree)


def operand_text(tree, lowest):
    """The text of an expression where the grammar asks for one of a kind, in brackets if its level is lower."""
    write = EXPRESSION_WRITERS[tree[0]]
    text = write(tree)
    if LEVELS[tree[0]] < LEVELS[lowest]:
        return f"({text})"
    return text


def listed(trees):
    """The texts of expressions with commas between them."""
    return ", ".join([expression_text(tree) for tree in trees])


def number_text(tree):
    """The text of a number, with as few digits as possible behind a dot."""
    n, d = tree[1]
    whole, rest = divmod(n, d)
    if rest == 0:
        return str(whole)
    digits = []
    while rest > 0:
        digit, rest = divmod(10 * rest, d)
        digits.append(str(digit))
    return str(whole) + "." + "".join(digits)


def constant_text(tree):
    """The text of a constant."""
    return tree[1]


def variable_text(tree):
    """The text of a variable."""
    name = tree[1]
    subscript = tree[2]
    if subscript is None:
        return name
    if is_whole_number(subscript):
        return name + number_text(subscript)
    return f"{name}[{expression_text(subscript)}]"


def is_whole_number(tree):
    """True if the tree of an expression is a whole number."""
    return tree[0] == "number" and tree[1][1] == 1


def pair_text(tree):
    """The text of a pair."""
    return f"({listed(tree[1:])})"


def call_text(tree):
    """The text of a function or of the call of a definition, with its arguments."""
    return f"{tree[1]}({listed(tree[2])})"


def minus_text(tree):
    """The text of a minus sign and its operand."""
    return "-" + operand_text(tree[1], "number")


def not_text(tree):
    """The text of `not` and its operand."""
    return "not " + operand_text(tree[1], "relation")


def operations_text(tree):
    """The text of a sum or of a product."""
    lowest = OPERANDS[tree[0]]
    parts = [operand_text(tree[1], lowest)]
    for sign, operand in tree[2]:
        parts.append(sign)
        parts.append(operand_text(operand, lowest))
    return " ".join(parts)


def joined_text(tree):
    """The text of items and the joins between them."""
    items = tree[1]
    joins = tree[2]
    parts = [operand_text(items[0], "sum")]
    for join, item in zip(joins, items[1:]):
        parts.append(join_text(join))
        parts.append(operand_text(item, "sum"))
    if tree[3]:
        parts.append(join_text(joins[-1]))
        parts.append("cycle")
    return " ".join(parts)


def join_text(join):
    """The text of a join."""
    if join[0] == "line":
        return "--"
    if join[0] == "curve":
        return f".. controls {controls_text(join)} .."
    if join[1] is None:
        return ".."
    return ".. tension " + operand_text(join[1], "sum") + " .."


def controls_text(join):
    """The text of the controls of a curve, of one alone if they are equal."""
    first = operand_text(join[1], "sum")
    if join[1] == join[2]:
        return first
    return first + " and " + operand_text(join[2], "sum")


def relation_text(tree):
    """The text of a relation."""
    left = operand_text(tree[2], "join")
    right = operand_text(tree[3], "join")
    return f"{left} {tree[1]} {right}"


def truth_text(tree):
    """The text of a chain with `and` or with `or`."""
    operands = []
    for operand in tree[1]:
        operands.append(operand_text(operand, OPERANDS[tree[0]]))
    return f" {tree[0]} ".join(operands)


def declare_text(tree):
    """The text of a declaration."""
    names = ", ".join(tree[2])
    return f"declare {tree[1]} {names}"


def assign_text(tree):
    """The text of an assignment."""
    return f"{variable_text(tree[1])} := {expression_text(tree[2])}"


def equate_text(tree):
    """The text of an equation."""
    return f"{expression_text(tree[1])} = {expression_text(tree[2])}"


def simple_text(tree):
    """The text of a statement of a word and one expression."""
    return f"{tree[0]} {expression_text(tree[1])}"


def beginchar_text(tree):
    """The text of the statement that begins a character."""
    return f"beginchar({listed(tree[1:])})"


def endchar_text(tree):
    """The text of the statement that ends a character."""
    return tree[0]


def ligtable_text(tree):
    """The text of a table of labels and steps."""
    finished = []
    labels = ""
    for item in tree[1]:
        if item[0] == "label":
            labels = labels + code_text(item[1]) + ": "
        else:
            finished.append(labels + step_text(item))
            labels = ""
    return "ligtable " + ", ".join(finished)


def step_text(step):
    """The text of a step of a table."""
    action = step[2]
    if action[0] == "kern":
        return f"{code_text(step[1])} kern {expression_text(action[1])}"
    return f"{code_text(step[1])} {action[1]} {expression_text(action[2])}"


def code_text(code):
    """The text of the code of a label or a step."""
    if code[0] == "edge":
        return "edge"
    return expression_text(code)


def for_text(tree):
    """The text of a loop."""
    return f"for {tree[1]} = {values_text(tree[2])}:\n{format_program(tree[3])}endfor"


def values_text(values):
    """The text of the values of a loop."""
    if values[0] == "list":
        return listed(values[1])
    first, step, last = [expression_text(part) for part in values[1:]]
    return f"{first} step {step} until {last}"


def if_text(tree):
    """The text of a choice between branches."""
    parts = []
    word = "if"
    for condition, body in tree[1]:
        parts.append(f"{word} {expression_text(condition)}:\n{format_program(body)}")
        word = "elseif"
    if tree[2] is not None:
        parts.append("else:\n" + format_program(tree[2]))
    return "".join(parts) + "fi"


def def_text(tree):
    """The text of a definition."""
    parameters = ", ".join(tree[2])
    return f"def {tree[1]}({parameters}) =\n{format_program(tree[3])}enddef"


# The functions that write the expressions and the statements, by the first items of their trees.
EXPRESSION_WRITERS = {
    "number": number_text,
    "constant": constant_text,
    "variable": variable_text,
    "pair": pair_text,
    "call": call_text,
    "minus": minus_text,
    "not": not_text,
    "product": operations_text,
    "sum": operations_text,
    "join": joined_text,
    "relation": relation_text,
    "and": truth_text,
    "or": truth_text,
}

STATEMENT_WRITERS = {
    "declare": declare_text,
    "assign": assign_text,
    "equate": equate_text,
    "fill": simple_text,
    "unfill": simple_text,
    "draw": simple_text,
    "undraw": simple_text,
    "pickup": simple_text,
    "italic": simple_text,
    "show": simple_text,
    "beginchar": beginchar_text,
    "endchar": endchar_text,
    "ligtable": ligtable_text,
    "for": for_text,
    "if": if_text,
    "def": def_text,
    "call": call_text,
}
