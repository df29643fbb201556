"""What several tests need: a way from tuples to fractions and back, and rows of pixels."""

from fractions import Fraction

LIMIT = 10 ** 18


def number(value):
    """The number (a tuple) of an integer or a fraction."""
    value = Fraction(value)
    return (value.numerator, value.denominator)


def point(x, y):
    return (number(x), number(y))


def points(*pairs):
    return [point(x, y) for x, y in pairs]


def value(n):
    """The fraction of a number."""
    return Fraction(n[0], n[1])


def place(p):
    """The pair of fractions of a point."""
    return (value(p[0]), value(p[1]))


def is_number(n):
    """True for a tuple of two integers (not True or False) in lowest terms, within the limits."""
    if type(n) is not tuple or len(n) != 2 or type(n[0]) is not int or type(n[1]) is not int:
        return False
    lowest = Fraction(n[0], n[1]) if n[1] else None
    return lowest is not None and number(lowest) == n and abs(n[0]) <= LIMIT and n[1] <= LIMIT


def is_point(p):
    return type(p) is tuple and len(p) == 2 and is_number(p[0]) and is_number(p[1])


def is_path(path):
    """True for a path as point 14 describes it."""
    if type(path) is not tuple or len(path) != 3 or type(path[2]) is not bool:
        return False
    knots, segments, is_cycle = path
    if type(knots) is not tuple or type(segments) is not tuple or not 1 <= len(knots) <= 24:
        return False
    if len(segments) != len(knots) - 1 + is_cycle or not all(is_point(knot) for knot in knots):
        return False
    return all(segment is None or is_curve(segment) for segment in segments)


def is_curve(segment):
    return type(segment) is tuple and len(segment) == 2 and is_point(segment[0]) and is_point(segment[1])


def is_form(form):
    """True for a form as point 6 describes it."""
    if type(form) is not tuple or len(form) != 2 or not is_number(form[0]) or type(form[1]) is not tuple:
        return False
    unknowns = [term[0] for term in form[1]]
    if unknowns != sorted(set(unknowns)) or any(type(u) is not int or u < 0 for u in unknowns):
        return False
    return all(type(t) is tuple and len(t) == 2 and is_number(t[1]) and t[1][0] != 0 for t in form[1])


def blank():
    """Rows of pixels that are all 0."""
    return [[0] * 48 for _ in range(48)]


def rows_with(weights):
    """The rows of pixels with the items of a dict of pixels."""
    rows = blank()
    for (i, j), item in weights.items():
        rows[j + 16][i + 8] = item
    return rows


def pixels(rows):
    """The dict of the pixels whose items are not 0."""
    return {(k - 8, at - 16): item for at, row in enumerate(rows) for k, item in enumerate(row) if item != 0}


def is_rows(rows):
    """True for rows of pixels as point 25 describes them, each a list of its own."""
    if type(rows) is not list or len(rows) != 48 or len({id(row) for row in rows}) != 48:
        return False
    return all(type(row) is list and len(row) == 48 and all(type(item) is int for item in row) for row in rows)
