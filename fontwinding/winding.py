"""Winding numbers of closed outlines about grid points."""


def lines(outline):
    """Yields the lines of an outline in order, each a pair of grid points."""
    for a, b in zip(outline, outline[1:]):
        yield (a, b)


def winding_number(outline, x, y):
    """The winding number of a closed outline about the grid point `(x, y)`."""
    total = 0
    for a, b in lines(outline):
        total += crossing(a, b, x, y)
    return total


def crossing(a, b, x, y):
    """The crossing of the line from `a` to `b` at `(x, y)`: 1, -1 or 0."""
    if a[1] <= y < b[1] and passes_left(a, b, x, y):
        return -1
    if b[1] <= y < a[1] and passes_left(b, a, x, y):
        return 1
    return 0


def passes_left(low, high, x, y):
    """True if the line between two grid points has the height `y` at a position not greater than `x`."""
    # Both sides are multiplied by the rise of the line, so that the position stays exact.
    return (high[0] - low[0]) * (y - low[1]) <= (x - low[0]) * (high[1] - low[1])


def double_area(outline):
    """Twice the area of a closed outline, positive if it goes around counterclockwise."""
    total = 0
    for p, q in lines(outline):
        total += p[0] * q[1] - p[1] * q[0]
    return total
