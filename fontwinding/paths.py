"""Paths: tuples `(knots, segments, is_cycle)`."""

from fontwinding.errors import TooMany
from fontwinding.transforms import apply

MOST_KNOTS = 24


def check_knots(count):
    """Refuses a path of more knots than a path may have."""
    if count > MOST_KNOTS:
        raise TooMany(f"a path has at most {MOST_KNOTS} knots")


def polygon(points, *, cycle):
    """The path through the points whose segments are all lines."""
    check_knots(len(points))
    count = len(points) - 1
    if cycle:
        count = len(points)
    return (tuple(points), (None,) * count, cycle)


def length(path):
    """The number of segments."""
    return len(path[1])


def reverse(path):
    """The path in the other direction; a cycle keeps its first knot."""
    knots, segments, is_cycle = path
    if is_cycle:
        turned = knots[:1] + knots[:0:-1]
    else:
        turned = knots[::-1]
    return (turned, tuple(exchanged(segment) for segment in segments[::-1]), is_cycle)


def exchanged(segment):
    """The segment with its controls exchanged."""
    if segment is None:
        return None
    return (segment[1], segment[0])


def transform_path(path, transform):
    """The path with the transform applied to its knots and controls."""
    knots, segments, is_cycle = path
    moved_knots = tuple(apply(transform, knot) for knot in knots)
    moved_segments = tuple(moved(segment, transform) for segment in segments)
    return (moved_knots, moved_segments, is_cycle)


def moved(segment, transform):
    """The segment with the transform applied to its controls."""
    if segment is None:
        return None
    return (apply(transform, segment[0]), apply(transform, segment[1]))
