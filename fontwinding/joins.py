"""Points joined to a path by lines, curves and smooth joins."""

from fontwinding.errors import OutOfRange
from fontwinding.paths import check_knots
from fontwinding.ratios import ONE, add, compare, divide, multiply, subtract

LEAST_TENSION = (3, 4)
HALF = (1, 2)
THREE = (3, 1)


def join_points(points, joins, *, cycle=False):
    """The path through the points with one join for each segment."""
    check_knots(len(points))
    for join in joins:
        if is_smooth(join) and compare(join[1], LEAST_TENSION) < 0:
            raise OutOfRange("a tension is less than 3/4")
    segments = tuple(joined_segment(points, joins, at, cycle) for at in range(len(joins)))
    return (tuple(points), segments, cycle)


def is_smooth(join):
    """True if the join is a smooth one."""
    return join[0] == "smooth"


def joined_segment(points, joins, at, cycle):
    """The segment of the join at an index."""
    join = joins[at]
    if join == "line":
        return None
    if is_smooth(join):
        return smooth_segment(points, joins, at, cycle)
    return (join[1], join[2])


def smooth_segment(points, joins, at, cycle):
    """The controls of the smooth join at an index."""
    a = points[at]
    b = points[(at + 1) % len(points)]
    factor = divide(ONE, multiply(THREE, joins[at][1]))
    if smooth_neighbor(joins, at - 1, cycle):
        first = ahead_of(a, factor, half_way(points[at - 1], b))
    else:
        first = ahead_of(a, factor, way_from(a, b))
    if smooth_neighbor(joins, at + 1, cycle):
        second = behind(b, factor, half_way(a, points[(at + 2) % len(points)]))
    else:
        second = behind(b, factor, way_from(a, b))
    return (first, second)


def smooth_neighbor(joins, at, cycle):
    """True if there is a join at an index beside a join, around a cycle too, and it is smooth."""
    if cycle:
        return is_smooth(joins[at % len(joins)])
    return 0 <= at < len(joins) and is_smooth(joins[at])


def way_from(p, q):
    """The difference of two points, `q - p`."""
    return (subtract(q[0], p[0]), subtract(q[1], p[1]))


def half_way(p, q):
    """One half times the difference `q - p`."""
    x, y = way_from(p, q)
    return (multiply(HALF, x), multiply(HALF, y))


def ahead_of(point, factor, way):
    """The point plus the factor times the way."""
    return (add(point[0], multiply(factor, way[0])), add(point[1], multiply(factor, way[1])))


def behind(point, factor, way):
    """The point minus the factor times the way."""
    return (subtract(point[0], multiply(factor, way[0])), subtract(point[1], multiply(factor, way[1])))
