"""The functions of expressions.

Each function takes the list of its arguments: their kinds are checked, their forms are reduced,
and those that must be known are known.
"""

from fontwinding.cuts import point_at, subpath
from fontwinding.errors import WrongKind
from fontwinding.forms import add_forms, known_form
from fontwinding.operators import added, multiplied, subtracted
from fontwinding.outlines import grid_point, outline
from fontwinding.paths import length, reverse
from fontwinding.pens import extent
from fontwinding.ratios import compare, floor_of, nearest, ratio
from fontwinding.transforms import inverse, sum_of_products
from fontwinding.values import is_known, number_in, numeric, pair_at, path_in, point_in
from fontwinding.winding import double_area, winding_number

GRID = 64
# The double area of a pixel, whose sides are 64 grid points long.
DOUBLE_PIXEL = 8192


def rounded_down(arguments):
    """The greatest integer that is not greater than a number."""
    return numeric((floor_of(number_in(arguments[0])), 1))


def rounded(arguments):
    """The number rounded to an integer."""
    return numeric((nearest(number_in(arguments[0])), 1))


def least(arguments):
    """The lesser one of two numbers."""
    a = number_in(arguments[0])
    b = number_in(arguments[1])
    if compare(b, a) < 0:
        return numeric(b)
    return numeric(a)


def greatest(arguments):
    """The greater one of two numbers."""
    a = number_in(arguments[0])
    b = number_in(arguments[1])
    if compare(b, a) > 0:
        return numeric(b)
    return numeric(a)


def x_part(arguments):
    """The x part of a pair."""
    return ("numeric", arguments[0][1])


def y_part(arguments):
    """The y part of a pair."""
    return ("numeric", arguments[0][2])


def knowledge(arguments):
    """True if the value is known."""
    return ("truth", is_known(arguments[0]))


def dot_product(arguments):
    """The sum of the product of the x parts and the product of the y parts."""
    p = point_in(arguments[0])
    q = point_in(arguments[1])
    return numeric(sum_of_products(p[0], q[0], p[1], q[1]))


def part_of_way(arguments):
    """The value `a + t * (b - a)`."""
    t, a, b = arguments
    return added([a, multiplied([t, subtracted([b, a])])])


def path_length(arguments):
    """The length of a path."""
    return numeric((length(path_in(arguments[0])), 1))


def path_point(arguments):
    """The point of a path at a time."""
    return pair_at(point_at(path_in(arguments[1]), number_in(arguments[0])))


def path_part(arguments):
    """The subpath between two times."""
    return ("path", subpath(path_in(arguments[2]), number_in(arguments[0]), number_in(arguments[1])))


def reversed_path(arguments):
    """The path in the other direction."""
    return ("path", reverse(path_in(arguments[0])))


def closed_outline(value):
    """The outline of a path, which must be a cycle."""
    path = path_in(value)
    if not path[2]:
        raise WrongKind("a path is not a cycle")
    return outline(path)


def winding_about(arguments):
    """The winding number of a cycle about a point."""
    x, y = grid_point(point_in(arguments[1]))
    return numeric((winding_number(closed_outline(arguments[0]), x, y), 1))


def area_within(arguments):
    """The area of a cycle, in pixels."""
    return numeric(ratio(double_area(closed_outline(arguments[0])), DOUBLE_PIXEL))


def inverted(arguments):
    """The inverse of a transform."""
    return ("transform", inverse(arguments[0][1]))


def side_of_pen(word, value, pen):
    """The pair, moved from the middle of the pen to one of its sides."""
    least_x, least_y, greatest_x, greatest_y = extent(pen)
    x = value[1]
    y = value[2]
    if word == "top":
        y = moved_by_grid(y, greatest_y)
    elif word == "bot":
        y = moved_by_grid(y, least_y)
    elif word == "lft":
        x = moved_by_grid(x, least_x)
    else:
        x = moved_by_grid(x, greatest_x)
    return ("pair", x, y)


def moved_by_grid(form, way):
    """The form plus a number of 64ths."""
    return add_forms(form, known_form(ratio(way, GRID)))


# The functions that do the work, by the words of the language; those with the pen are not among them.
FUNCTION_WORK = {
    "floor": rounded_down,
    "round": rounded,
    "min": least,
    "max": greatest,
    "xpart": x_part,
    "ypart": y_part,
    "known": knowledge,
    "dot": dot_product,
    "way": part_of_way,
    "length": path_length,
    "point": path_point,
    "subpath": path_part,
    "reverse": reversed_path,
    "winding": winding_about,
    "area": area_within,
    "inverse": inverted,
}
