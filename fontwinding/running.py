"""The statements of a program, run one after the other."""

from fontwinding.errors import OutOfRange, TooMany, UnknownValue, WrongKind
from fontwinding.evaluation import evaluate, is_local, number_of, path_of, subscript_of
from fontwinding.ligtables import add_items
from fontwinding.ratios import ONE, ZERO, add, compare
from fontwinding.values import check_kind, known_value, number_in, numeric, point_in

MOST_SHOWN = 200
SHOWN_KINDS = ("numeric", "pair", "transform", "truth")


def run_statements(scope, statements):
    """Runs the statements of a program or of a body in order."""
    for statement in statements:
        scope.steps.begin_step()
        run = RUNNERS[statement[0]]
        run(scope, statement)


def run_declare(scope, tree):
    """Declares names."""
    scope.state.variables.declare(tree[1], tree[2])


def run_assign(scope, tree):
    """Gives a variable a value."""
    variable = tree[1]
    if is_local(scope, variable):
        raise WrongKind(f"{variable[1]} stands for a value and cannot be assigned")
    subscript = subscript_of(scope, variable)
    scope.state.variables.assign(variable[1], subscript, evaluate(scope, tree[2]))


def run_equate(scope, tree):
    """Adds an equation of two numeric values, or the two equations of two pairs."""
    left = evaluate(scope, tree[1])
    right = evaluate(scope, tree[2])
    check_kind(left, ("numeric", "pair"))
    check_kind(right, (left[0],))
    for left_form, right_form in zip(left[1:], right[1:]):
        scope.state.equations.equate(left_form, right_form)


def run_fill(scope, tree):
    """Adds the winding numbers of a path to the weights."""
    scope.state.canvas.fill(path_of(scope, tree[1]), 1)


def run_unfill(scope, tree):
    """Subtracts the winding numbers of a path from the weights."""
    scope.state.canvas.fill(path_of(scope, tree[1]), -1)


def run_draw(scope, tree):
    """Adds 1 to the weights of the pixels that a path covers."""
    scope.state.canvas.draw(path_of(scope, tree[1]), 1)


def run_undraw(scope, tree):
    """Subtracts 1 from the weights of the pixels that a path covers."""
    scope.state.canvas.draw(path_of(scope, tree[1]), -1)


def run_pickup(scope, tree):
    """Makes the knots of a path the pen."""
    scope.state.canvas.pick_up(path_of(scope, tree[1]))


def run_italic(scope, tree):
    """Sets the italic correction of the open character."""
    scope.state.canvas.set_italic(number_of(scope, tree[1]))


def run_show(scope, tree):
    """Appends the numbers of a value to the shown numbers."""
    state = scope.state
    numbers = numbers_of(known_value(state.equations, evaluate(scope, tree[1]), SHOWN_KINDS))
    if len(state.numbers_shown) + len(numbers) > MOST_SHOWN:
        raise TooMany(f"at most {MOST_SHOWN} numbers are shown")
    state.numbers_shown.extend(numbers)


def numbers_of(value):
    """The list of the numbers of a known value."""
    if value[0] == "numeric":
        return [number_in(value)]
    if value[0] == "pair":
        return list(point_in(value))
    if value[0] == "transform":
        return list(value[1])
    if value[1]:
        return [ONE]
    return [ZERO]


def run_beginchar(scope, tree):
    """Opens a character."""
    numbers = []
    for operand in tree[1:]:
        numbers.append(number_of(scope, operand))
    scope.state.canvas.begin(numbers[0], numbers[1:])
    scope.state.variables.renew(("x", "y"))


def run_endchar(scope, tree):
    """Completes the open character."""
    scope.state.canvas.end()


def run_ligtable(scope, tree):
    """Adds labels and steps of ligatures and kerns."""
    add_items(scope, tree)


def run_for(scope, tree):
    """Runs the body of a loop for each of its values."""
    name = tree[1]
    values = tree[2]
    body = tree[3]
    if values[0] == "list":
        for number in numbers_listed(scope, values[1]):
            run_pass(scope, name, number, body)
    else:
        run_range(scope, name, values, body)


def numbers_listed(scope, trees):
    """The list of the numbers of expressions."""
    numbers = []
    for tree in trees:
        numbers.append(number_of(scope, tree))
    return numbers


def run_range(scope, name, values, body):
    """Runs the body of a loop for the numbers of a range."""
    number = number_of(scope, values[1])
    step = number_of(scope, values[2])
    direction = compare(step, ZERO)
    if direction == 0:
        raise OutOfRange("the step of a loop is zero")
    last = number_of(scope, values[3])
    # The number is not behind the last one, in the direction of the step.
    while compare(number, last) != direction:
        run_pass(scope, name, number, body)
        number = add(number, step)


def run_pass(scope, name, number, body):
    """Runs the body of a loop for one number."""
    scope.steps.begin_step()
    run_statements(scope.body({**scope.names, name: numeric(number)}), body)


def run_if(scope, tree):
    """Runs the body of the first branch whose condition is true, or the body after `else`."""
    body = chosen_body(scope, tree)
    if body is not None:
        run_statements(scope.body(scope.names), body)


def chosen_body(scope, tree):
    """The body that an `if` chooses, or None."""
    for condition, body in tree[1]:
        value = evaluate(scope, condition)
        check_kind(value, ("truth",))
        if value[1]:
            return body
    return tree[2]


def run_def(scope, tree):
    """Stores a definition."""
    scope.state.definitions[tree[1]] = (tree[2], tree[3])


def run_call(scope, tree):
    """Runs the body of a definition with the values of its arguments."""
    if tree[1] not in scope.state.definitions:
        raise UnknownValue(f"{tree[1]} has no definition")
    parameters, body = scope.state.definitions[tree[1]]
    if len(tree[2]) != len(parameters):
        raise WrongKind(f"{tree[1]} takes {len(parameters)} arguments")
    names = {}
    for parameter, argument in zip(parameters, tree[2]):
        names[parameter] = evaluate(scope, argument)
    run_statements(scope.body(names), body)


# The functions that run the statements, by the first items of their trees.
RUNNERS = {
    "declare": run_declare,
    "assign": run_assign,
    "equate": run_equate,
    "fill": run_fill,
    "unfill": run_unfill,
    "draw": run_draw,
    "undraw": run_undraw,
    "pickup": run_pickup,
    "italic": run_italic,
    "show": run_show,
    "beginchar": run_beginchar,
    "endchar": run_endchar,
    "ligtable": run_ligtable,
    "for": run_for,
    "if": run_if,
    "def": run_def,
    "call": run_call,
}
