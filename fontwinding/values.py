"""Values of expressions: tuples whose first item is the kind of the value."""

from fontwinding.errors import OutOfRange, UnknownValue, WrongKind
from fontwinding.forms import known_form
from fontwinding.paths import polygon


def numeric(number):
    """The numeric value of a number."""
    return ("numeric", known_form(number))


def pair_at(point):
    """The pair of a point."""
    return ("pair", known_form(point[0]), known_form(point[1]))


def has_forms(value):
    """True for the kinds of values that consist of forms."""
    return value[0] in ("numeric", "pair")


def reduced(equations, value):
    """The value with its forms reduced."""
    if not has_forms(value):
        return value
    return (value[0],) + tuple(equations.reduce(form) for form in value[1:])


def is_known(value):
    """True if a value whose forms are reduced is known."""
    return not has_forms(value) or all(not form[1] for form in value[1:])


def check_known(value):
    """Refuses a value that is not known; its forms are reduced."""
    if not is_known(value):
        raise UnknownValue("a value is not known")


def check_kind(value, kinds):
    """Refuses a value that is of none of these kinds."""
    if value[0] not in kinds:
        raise WrongKind(f"a value is of the kind {value[0]}")


def known_value(equations, value, kinds):
    """The value with its forms reduced, when it is of one of these kinds and known."""
    check_kind(value, kinds)
    found = reduced(equations, value)
    check_known(found)
    return found


def number_in(value):
    """The number of a known numeric value."""
    return value[1][0]


def point_in(value):
    """The point of a known pair."""
    return (value[1][0], value[2][0])


def path_in(value):
    """The path of a value; a known pair is an open path of one knot."""
    if value[0] == "pair":
        return polygon([point_in(value)], cycle=False)
    return value[1]


def whole_up_to(number, most):
    """The integer that a number is, from 0 up to the greatest one that is allowed."""
    if number[1] != 1:
        raise OutOfRange("a number is not an integer")
    if not 0 <= number[0] <= most:
        raise OutOfRange(f"an integer is not from 0 to {most}")
    return number[0]
