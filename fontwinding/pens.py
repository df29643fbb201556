"""Pens, which are lists of corners, and the pixels that they cover along an outline."""

from fontwinding.filling import changes_of, rows_of
from fontwinding.hulls import corners
from fontwinding.winding import lines


def sweep(pen, p, q):
    """The corners of the pen's way along the line from `p` to `q`."""
    return corners(moved_pen(pen, p) + moved_pen(pen, q))


def moved_pen(pen, p):
    """The sums of a grid point and the corners of the pen."""
    return [(p[0] + x, p[1] + y) for x, y in pen]


def cover_rows(pen, outline):
    """The rows of pixels with 1 for each pixel that the outline covers with the pen, 0 for the others."""
    changes = []
    for p, q in drawn_lines(outline):
        swept = sweep(pen, p, q)
        changes.extend(changes_of(swept + swept[:1]))
    # The corners go around counterclockwise, so no winding number of a sweep is negative:
    # their sum is zero only if all of them are.
    return [[1 if number else 0 for number in row] for row in rows_of(changes)]


def drawn_lines(outline):
    """The list of the lines of an outline; one grid point counts as one line."""
    if len(outline) == 1:
        return [(outline[0], outline[0])]
    return list(lines(outline))


def extent(pen):
    """The tuple `(least_x, least_y, greatest_x, greatest_y)` of the corners of a pen."""
    xs = [corner[0] for corner in pen]
    ys = [corner[1] for corner in pen]
    return (min(xs), min(ys), max(xs), max(ys))
