"""The values of expressions."""

from fontwinding.forms import unknown_form
from fontwinding.functions import FUNCTION_WORK, side_of_pen
from fontwinding.joins import join_points
from fontwinding.operators import OPERATOR_WORK
from fontwinding.ratios import ONE
from fontwinding.signatures import prepared
from fontwinding.transforms import IDENTITY
from fontwinding.values import check_kind, check_known, known_value, number_in, numeric, path_in, point_in, reduced
from fontwinding.values import whole_up_to

MOST_SUBSCRIPT = 99
PEN_WORDS = ("top", "bot", "lft", "rt")


def evaluate(scope, tree):
    """The value of an expression."""
    work = EVALUATORS[tree[0]]
    return work(scope, tree)


def number_value(scope, tree):
    """The value of a number."""
    return numeric(tree[1])


def constant_value(scope, tree):
    """The value of a constant."""
    word = tree[1]
    if word == "pix":
        return numeric((scope.state.resolution, 1))
    if word == "identity":
        return ("transform", IDENTITY)
    if word == "whatever":
        return ("numeric", unknown_form(scope.state.equations.new_unknown()))
    return ("truth", word == "true")


def variable_value(scope, tree):
    """The value of a variable, or the value that a local name stands for."""
    name = tree[1]
    if is_local(scope, tree):
        return scope.names[name]
    return scope.state.variables.use(name, subscript_of(scope, tree))


def is_local(scope, tree):
    """True for a variable without a subscript whose name stands for a value here."""
    return tree[2] is None and tree[1] in scope.names


def subscript_of(scope, tree):
    """The subscript of a variable, None if it has none."""
    if tree[2] is None:
        return None
    return whole_up_to(number_of(scope, tree[2]), MOST_SUBSCRIPT)


def pair_value(scope, tree):
    """The value of a pair expression."""
    x = evaluate(scope, tree[1])
    return operated(scope, "pair", [x, evaluate(scope, tree[2])])


def call_value(scope, tree):
    """The value of a function."""
    word = tree[1]
    values = []
    for argument in tree[2]:
        values.append(evaluate(scope, argument))
    arguments = prepared(scope.state.equations, word, values)
    if word in PEN_WORDS:
        return side_of_pen(word, arguments[0], scope.state.canvas.pen_corners())
    work = FUNCTION_WORK[word]
    return work(arguments)


def operated(scope, word, values):
    """The value that an operation makes from the values of its operands."""
    work = OPERATOR_WORK[word]
    return work(prepared(scope.state.equations, word, values))


def operand_value(scope, tree):
    """The value of a word or sign before its operand."""
    return operated(scope, tree[0], [evaluate(scope, tree[1])])


def chain_value(scope, tree):
    """The value of a sum or a product: two operands are one operation, then its result and the next one."""
    value = evaluate(scope, tree[1])
    for sign, operand in tree[2]:
        value = operated(scope, sign, [value, evaluate(scope, operand)])
    return value


def relation_value(scope, tree):
    """The value of a relation."""
    left = evaluate(scope, tree[2])
    return operated(scope, tree[1], [left, evaluate(scope, tree[3])])


def truths_of(scope, trees):
    """The list of the truth values of operands, all of which are evaluated before their kinds are checked."""
    values = []
    for tree in trees:
        values.append(evaluate(scope, tree))
    for value in values:
        check_kind(value, ("truth",))
    return [value[1] for value in values]


def and_value(scope, tree):
    """The value of operands with `and` between them."""
    return ("truth", all(truths_of(scope, tree[1])))


def or_value(scope, tree):
    """The value of operands with `or` between them."""
    return ("truth", any(truths_of(scope, tree[1])))


def joined_value(scope, tree):
    """The path of items and the joins between them."""
    kinds = []
    values = []
    for kind, operand in joined_operands(tree):
        kinds.append(kind)
        values.append(evaluate(scope, operand))
    for kind, value in zip(kinds, values):
        check_kind(value, (kind,))
    operands = [reduced(scope.state.equations, value) for value in values]
    for operand in operands:
        check_known(operand)
    return ("path", joined_path(tree, operands))


def joined_operands(tree):
    """The list of the operands of a join expression, in the order of the text, each with the kind it must have."""
    joins = tree[2]
    found = []
    for at, item in enumerate(tree[1]):
        found.append(("pair", item))
        if at < len(joins):
            found.extend(join_operands(joins[at]))
    return found


def join_operands(join):
    """The list of the operands of one join, each with the kind that it must have."""
    if join[0] == "curve":
        return [("pair", join[1]), ("pair", join[2])]
    if join[0] == "smooth" and join[1] is not None:
        return [("numeric", join[1])]
    return []


def joined_path(tree, operands):
    """The path of a join expression, with known operands in the order of the text."""
    points = []
    joins = []
    ahead = operands[::-1]
    for at in range(len(tree[1])):
        points.append(point_in(ahead.pop()))
        if at < len(tree[2]):
            join = tree[2][at]
            parts = []
            while len(parts) < len(join_operands(join)):
                parts.append(ahead.pop())
            joins.append(made_join(join, parts))
    return join_points(points, joins, cycle=tree[3])


def made_join(join, parts):
    """The join between two points, with the values of its operands."""
    if join[0] == "line":
        return "line"
    if join[0] == "curve":
        return ("curve", point_in(parts[0]), point_in(parts[1]))
    if not parts:
        return ("smooth", ONE)
    return ("smooth", number_in(parts[0]))


def number_of(scope, tree):
    """The number of an expression, which must be a known numeric value."""
    return number_in(known_value(scope.state.equations, evaluate(scope, tree), ("numeric",)))


def path_of(scope, tree):
    """The path of an expression, which must be a path or a known pair."""
    return path_in(known_value(scope.state.equations, evaluate(scope, tree), ("path", "pair")))


# The functions that evaluate the expressions, by the first items of their trees.
EVALUATORS = {
    "number": number_value,
    "constant": constant_value,
    "variable": variable_value,
    "pair": pair_value,
    "call": call_value,
    "minus": operand_value,
    "not": operand_value,
    "product": chain_value,
    "sum": chain_value,
    "join": joined_value,
    "relation": relation_value,
    "and": and_value,
    "or": or_value,
}
