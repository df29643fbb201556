"""The corners of convex hulls of grid points."""


def corners(points):
    """The corners of the convex hull, counterclockwise from the lowest one."""
    heights_first = sorted({(point[1], point[0]) for point in points})
    upwards = [(x, y) for y, x in heights_first]
    if len(upwards) == 1:
        return upwards
    return side(upwards) + side(upwards[::-1])


def side(points):
    """The corners on the right of the way through the points, without the last point."""
    found = []
    for point in points:
        while len(found) >= 2 and not turns_left(found[-2], found[-1], point):
            found.pop()
        found.append(point)
    return found[:-1]


def turns_left(a, b, c):
    """True if the way from `a` over `b` to `c` turns to the left at `b`."""
    return (b[0] - a[0]) * (c[1] - b[1]) > (b[1] - a[1]) * (c[0] - b[0])
