"""Outlines: lists of grid points, which are pairs of integers in 64ths of a pixel."""

from fontwinding.cuts import segment_at
from fontwinding.paths import length
from fontwinding.ratios import sixty_fourths

DEEPEST = 5
MOST_BENT = 16


def grid_point(point):
    """The grid point of a point."""
    return (sixty_fourths(point[0]), sixty_fourths(point[1]))


def outline(path):
    """The grid points along a path."""
    found = [grid_point(path[0][0])]
    for n in range(length(path)):
        a, segment, b = segment_at(path, n)
        found.extend(laid_out_segment(grid_point(a), segment, grid_point(b)))
    return found


def laid_out_segment(a, segment, b):
    """The grid points that a segment between two grid points adds."""
    if segment is None:
        return [b]
    return lay_out(a, grid_point(segment[0]), grid_point(segment[1]), b, 0)


def lay_out(a, b, c, d, depth):
    """The grid points that a curve of four grid points adds at a depth."""
    if depth >= DEEPEST or (is_flat(a, b, c) and is_flat(b, c, d)):
        return [d]
    e = middle(a, b)
    f = middle(b, c)
    g = middle(c, d)
    h = middle(e, f)
    k = middle(f, g)
    m = middle(h, k)
    return lay_out(a, e, h, m, depth + 1) + lay_out(m, k, g, d, depth + 1)


def is_flat(a, b, c):
    """True if both parts of `a - 2 b + c` are near zero."""
    return is_small(a[0] - 2 * b[0] + c[0]) and is_small(a[1] - 2 * b[1] + c[1])


def is_small(bend):
    """True if a second difference is near enough to zero for a straight line."""
    return -MOST_BENT <= bend <= MOST_BENT


def middle(p, q):
    """The grid point half way between two grid points, rounded down."""
    return ((p[0] + q[0]) // 2, (p[1] + q[1]) // 2)
