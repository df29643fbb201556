"""The operations of expressions with signs and words between or before their operands.

Each function takes the list of its operands: their kinds are checked, their forms are reduced,
and those that must be known are known.
"""

from fontwinding.errors import DivisionByZero, OutOfRange
from fontwinding.forms import add_forms, known_form, scale_form, subtract_forms
from fontwinding.paths import transform_path
from fontwinding.ratios import ONE, ZERO, compare, divide, ratio
from fontwinding.transforms import compose, scale_by, shift_by, slant_by, turn_by
from fontwinding.values import check_known, is_known, number_in, numeric, point_in

MINUS_ONE = (-1, 1)
QUARTER = 90


def made_pair(operands):
    """The pair of two numeric values."""
    x, y = operands
    return ("pair", x[1], y[1])


def added(operands):
    """The sum of two values of the same kind, part by part."""
    left, right = operands
    return (left[0],) + tuple([add_forms(a, b) for a, b in zip(left[1:], right[1:])])


def subtracted(operands):
    """The difference of two values of the same kind, part by part."""
    left, right = operands
    return (left[0],) + tuple([subtract_forms(a, b) for a, b in zip(left[1:], right[1:])])


def scaled(value, number):
    """A numeric value or a pair multiplied by a number, part by part."""
    return (value[0],) + tuple(scale_form(form, number) for form in value[1:])


def negated(operands):
    """The value with the other sign."""
    return scaled(operands[0], MINUS_ONE)


def multiplied(operands):
    """The product of a numeric value and a numeric value or a pair, one of which must be known."""
    factor, other = operands
    if factor[0] == "pair":
        factor, other = other, factor
    if is_known(factor):
        return scaled(other, number_in(factor))
    check_known(other)
    return (other[0],) + tuple(scale_form(factor[1], form[0]) for form in other[1:])


def divided(operands):
    """The value divided by a number."""
    return scaled(operands[0], divide(ONE, number_in(operands[1])))


def whole_quotient(a, b):
    """The quotient of two numbers, rounded down to an integer, without limits."""
    if b == ZERO:
        raise DivisionByZero("a number is divided by zero")
    return (a[0] * b[1]) // (a[1] * b[0])


def divided_down(operands):
    """The quotient rounded down."""
    a = number_in(operands[0])
    b = number_in(operands[1])
    return numeric(ratio(whole_quotient(a, b), 1))


def remainder(operands):
    """What remains of a number when the other one is taken away as often as the quotient says."""
    a = number_in(operands[0])
    b = number_in(operands[1])
    # The limits are for the result only, so all is done with the integers of the numbers.
    n = a[0] * b[1] - b[0] * whole_quotient(a, b) * a[1]
    return numeric(ratio(n, a[1] * b[1]))


def less(operands):
    """True if the left number is less than the right one."""
    return ("truth", compared(operands) < 0)


def not_greater(operands):
    """True if the left number is less than the right one, or equal."""
    return ("truth", compared(operands) <= 0)


def greater(operands):
    """True if the left number is greater than the right one."""
    return ("truth", compared(operands) > 0)


def not_less(operands):
    """True if the left number is greater than the right one, or equal."""
    return ("truth", compared(operands) >= 0)


def compared(operands):
    """-1, 0 or 1, as the left number is less than, equal to or greater than the right one."""
    return compare(number_in(operands[0]), number_in(operands[1]))


def same(operands):
    """True if the values are equal."""
    return ("truth", operands[0] == operands[1])


def different(operands):
    """True if the values are not equal."""
    return ("truth", operands[0] != operands[1])


def opposite(operands):
    """The other truth value."""
    return ("truth", not operands[0][1])


def moved(value, transform):
    """A pair, a path or a transform to which a transform is applied."""
    if value[0] == "path":
        return ("path", transform_path(value[1], transform))
    if value[0] == "transform":
        return ("transform", compose(value[1], transform))
    tx, ty, xx, xy, yx, yy = transform
    return ("pair", moved_form(tx, xx, xy, value), moved_form(ty, yx, yy, value))


def moved_form(shift, by_x, by_y, pair):
    """One form of a moved pair: `shift + by_x x + by_y y`."""
    along_x = scale_form(pair[1], by_x)
    along_y = scale_form(pair[2], by_y)
    return add_forms(add_forms(known_form(shift), along_x), along_y)


def shifted(operands):
    """The value shifted by a pair."""
    return moved(operands[0], shift_by(point_in(operands[1])))


def scaled_both(operands):
    """The value scaled by a number."""
    number = number_in(operands[1])
    return moved(operands[0], scale_by(number, number))


def scaled_x(operands):
    """The value scaled along x."""
    return moved(operands[0], scale_by(number_in(operands[1]), ONE))


def scaled_y(operands):
    """The value scaled along y."""
    return moved(operands[0], scale_by(ONE, number_in(operands[1])))


def slanted(operands):
    """The value slanted by a number."""
    return moved(operands[0], slant_by(number_in(operands[1])))


def rotated(operands):
    """The value turned counterclockwise by a whole multiple of 90 degrees."""
    n, d = number_in(operands[1])
    if d != 1 or n % QUARTER != 0:
        raise OutOfRange("a rotation is not a multiple of 90 degrees")
    return moved(operands[0], turn_by(n // QUARTER))


def transformed(operands):
    """The value to which a transform is applied."""
    return moved(operands[0], operands[1][1])


# The functions that do the operations, by their signs and words.
OPERATOR_WORK = {
    "pair": made_pair,
    "minus": negated,
    "not": opposite,
    "+": added,
    "-": subtracted,
    "*": multiplied,
    "/": divided,
    "div": divided_down,
    "mod": remainder,
    "<": less,
    "<=": not_greater,
    ">": greater,
    ">=": not_less,
    "==": same,
    "<>": different,
    "shifted": shifted,
    "scaled": scaled_both,
    "xscaled": scaled_x,
    "yscaled": scaled_y,
    "slanted": slanted,
    "rotated": rotated,
    "transformed": transformed,
}
