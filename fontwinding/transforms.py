"""Transforms of points: tuples `(tx, ty, xx, xy, yx, yy)` of six numbers."""

from fontwinding.errors import DivisionByZero
from fontwinding.ratios import ONE, ZERO, add, divide, multiply, subtract

IDENTITY = ((0, 1), (0, 1), (1, 1), (0, 1), (0, 1), (1, 1))

# The parts xx, xy, yx, yy for 0, 1, 2 and 3 quarter turns counterclockwise.
QUARTERS = (
    ((1, 1), (0, 1), (0, 1), (1, 1)),
    ((0, 1), (-1, 1), (1, 1), (0, 1)),
    ((-1, 1), (0, 1), (0, 1), (-1, 1)),
    ((0, 1), (1, 1), (-1, 1), (0, 1)),
)


def apply(transform, point):
    """The point to which the transform takes the point."""
    tx, ty, xx, xy, yx, yy = transform
    return (moved_part(tx, xx, xy, point), moved_part(ty, yx, yy, point))


def moved_part(shift, by_x, by_y, point):
    """One part of a moved point: `shift + by_x x + by_y y`."""
    along_x = multiply(by_x, point[0])
    along_y = multiply(by_y, point[1])
    return add(add(shift, along_x), along_y)


def compose(first, second):
    """The transform that does `first` and then `second`."""
    tx, ty, xx, xy, yx, yy = first
    to_xx, to_xy, to_yx, to_yy = second[2:]
    parts = (
        sum_of_products(to_xx, xx, to_xy, yx),
        sum_of_products(to_xx, xy, to_xy, yy),
        sum_of_products(to_yx, xx, to_yy, yx),
        sum_of_products(to_yx, xy, to_yy, yy),
    )
    return apply(second, (tx, ty)) + parts


def inverse(transform):
    """The transform that takes back what the transform does."""
    tx, ty, xx, xy, yx, yy = transform
    determinant = subtract(multiply(xx, yy), multiply(xy, yx))
    if determinant == ZERO:
        raise DivisionByZero("the transform has no inverse")
    new_xx = divide(yy, determinant)
    new_xy = divide(negative(xy), determinant)
    new_yx = divide(negative(yx), determinant)
    new_yy = divide(xx, determinant)
    new_tx = negative(sum_of_products(new_xx, tx, new_xy, ty))
    new_ty = negative(sum_of_products(new_yx, tx, new_yy, ty))
    return (new_tx, new_ty, new_xx, new_xy, new_yx, new_yy)


def sum_of_products(a, b, c, d):
    """The number `a b + c d`."""
    return add(multiply(a, b), multiply(c, d))


def negative(a):
    """The number with the other sign; the limits are the same for both signs."""
    return (-a[0], a[1])


def shift_by(point):
    """The transform that shifts by a point."""
    return (point[0], point[1], ONE, ZERO, ZERO, ONE)


def scale_by(x, y):
    """The transform that scales by two numbers."""
    return (ZERO, ZERO, x, ZERO, ZERO, y)


def slant_by(s):
    """The transform that slants by a number."""
    return (ZERO, ZERO, ONE, s, ZERO, ONE)


def turn_by(quarters):
    """The transform that turns counterclockwise by this many quarter turns."""
    return (ZERO, ZERO) + QUARTERS[quarters % 4]
