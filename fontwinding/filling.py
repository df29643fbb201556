"""The canvas, and the rows of pixels that closed outlines fill on it."""

from fontwinding.winding import lines

LEFT = -8
BOTTOM = -16
SIZE = 48
PIXEL = 64
HALF_PIXEL = 32


def blank_rows():
    """Rows of pixels that are all 0."""
    return [[0] * SIZE for _ in range(SIZE)]


def fill_rows(outline):
    """The rows of pixels with the winding numbers of a closed outline about their centers."""
    return rows_of(changes_of(outline))


def changes_of(outline):
    """Where the winding number of an outline changes: a list of tuples `(row, column, change)`.

    The number of each pixel of the row grows by `change` from this column on.
    """
    changes = []
    for a, b in lines(outline):
        if a[1] < b[1]:
            changes.extend(changes_at_line(a, b, -1))
        else:
            changes.extend(changes_at_line(b, a, 1))
    return changes


def changes_at_line(low, high, change):
    """The changes at the line between two grid points, in the rows of the canvas that it crosses."""
    first = max(first_center(low[1]) - BOTTOM, 0)
    behind = min(first_center(high[1]) - BOTTOM, SIZE)
    changes = []
    for row in range(first, behind):
        y = (row + BOTTOM) * PIXEL + HALF_PIXEL
        column = max(first_center(first_position(low, high, y)) - LEFT, 0)
        if column < SIZE:
            changes.append((row, column, change))
    return changes


def first_center(position):
    """The least index of a pixel whose center is not before a position, along x or y."""
    return -((HALF_PIXEL - position) // PIXEL)


def first_position(low, high, y):
    """The least integer that is not less than the position at which a line crosses the height `y`."""
    return low[0] - (high[0] - low[0]) * (low[1] - y) // (high[1] - low[1])


def rows_of(changes):
    """The rows of pixels that begin with 0 and have these changes."""
    rows = blank_rows()
    for row, column, change in changes:
        rows[row][column] += change
    return [running_sums(row) for row in rows]


def running_sums(row):
    """For each item the sum of the items up to this one."""
    total = 0
    sums = []
    for item in row:
        total += item
        sums.append(total)
    return sums
