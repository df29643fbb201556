"""Points at times on a path, and the parts of a path between two times."""

from fontwinding.paths import check_knots, length, reverse
from fontwinding.ratios import ONE, ZERO, add, compare, divide, floor_of, multiply, ratio, subtract


def between(p, q, fraction):
    """The point between two points at a fraction."""
    return (part_between(p[0], q[0], fraction), part_between(p[1], q[1], fraction))


def part_between(p, q, fraction):
    """The number `p + fraction (q - p)`."""
    return add(p, multiply(fraction, subtract(q, p)))


def cut_segment(a, segment, b, fraction):
    """The first part, the point and the second part of a segment that is cut at a fraction."""
    if segment is None:
        return (None, between(a, b, fraction), None)
    first_control, second_control = segment
    first = between(a, first_control, fraction)
    second = between(first_control, second_control, fraction)
    third = between(second_control, b, fraction)
    before = between(first, second, fraction)
    after = between(second, third, fraction)
    return ((first, before), between(before, after, fraction), (after, third))


def point_at(path, time):
    """The point of the path at a time."""
    place = time_on(path, time)
    n = floor_of(place)
    if place[1] == 1:
        return path[0][n]
    a, segment, b = segment_at(path, n)
    return cut_segment(a, segment, b, subtract(place, (n, 1)))[1]


def time_on(path, time):
    """The time from 0 to the length of the path that a time means."""
    if not path[2]:
        return clamped(path, time)
    n, d = time
    return ratio(n % (length(path) * d), d)


def clamped(path, time):
    """The time moved into the range from 0 to the length of the path."""
    whole = (length(path), 1)
    if compare(time, ZERO) < 0:
        return ZERO
    if compare(time, whole) > 0:
        return whole
    return time


def segment_at(path, n):
    """The segment from the whole time `n`, between its two knots, which repeat in a cycle."""
    knots, segments, _ = path
    at = n % len(segments)
    return (knots[at], segments[at], knots[(at + 1) % len(knots)])


def subpath(path, start, end):
    """The part of the path between two times, an open path."""
    if compare(start, end) > 0:
        return reverse(subpath(path, end, start))
    if path[2]:
        return part_of(path, start, end)
    return part_of(path, clamped(path, start), clamped(path, end))


def part_of(path, start, end):
    """The subpath between two times in ascending order, which lie on an open path."""
    if start == end:
        return ((point_at(path, start),), (), False)
    first = floor_of(start)
    last = ceiling_of(end)
    check_knots(last - first + 1)
    knots = [point_at(path, start)]
    for n in range(first + 1, last):
        knots.append(path[0][n % len(path[0])])
    knots.append(point_at(path, end))
    segments = tuple(piece(path, n, start, end) for n in range(first, last))
    return (tuple(knots), segments, False)


def ceiling_of(a):
    """The least integer that is not less than the number."""
    return -(-a[0] // a[1])


def piece(path, n, start, end):
    """What remains of the segment from the whole time `n` between two times."""
    a, segment, b = segment_at(path, n)
    # A segment that is cut at both ends is cut at the later time first.
    later = ONE
    if compare(end, (n + 1, 1)) < 0:
        later = subtract(end, (n, 1))
        segment, b, _ = cut_segment(a, segment, b, later)
    if compare(start, (n, 1)) > 0:
        earlier = subtract(start, (n, 1))
        segment = cut_segment(a, segment, b, divide(earlier, later))[2]
    return segment
