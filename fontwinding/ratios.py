"""Exact numbers: tuples `(n, d)` in lowest terms, within limits."""

from math import gcd

from fontwinding.errors import DivisionByZero, TooGreat

LIMIT = 10 ** 18
ZERO = (0, 1)
ONE = (1, 1)


def ratio(n, d):
    """The number n / d."""
    if d == 0:
        raise DivisionByZero("a number is divided by zero")
    common = gcd(n, d)
    if d < 0:
        common = -common
    top = n // common
    bottom = d // common
    if not -LIMIT <= top <= LIMIT or bottom > LIMIT:
        raise TooGreat("a number exceeds the limits")
    return (top, bottom)


def add(a, b):
    """The sum of two numbers."""
    return ratio(a[0] * b[1] + b[0] * a[1], a[1] * b[1])


def subtract(a, b):
    """The difference of two numbers."""
    return ratio(a[0] * b[1] - b[0] * a[1], a[1] * b[1])


def multiply(a, b):
    """The product of two numbers."""
    return ratio(a[0] * b[0], a[1] * b[1])


def divide(a, b):
    """The quotient of two numbers."""
    return ratio(a[0] * b[1], a[1] * b[0])


def compare(a, b):
    """-1 if `a` is less than `b`, 0 if they are equal, 1 if `a` is greater."""
    left = a[0] * b[1]
    right = b[0] * a[1]
    if left < right:
        return -1
    if left > right:
        return 1
    return 0


def floor_of(a):
    """The greatest integer that is not greater than the number."""
    return a[0] // a[1]


def nearest(a):
    """The number rounded to an integer, a half upwards."""
    return (2 * a[0] + a[1]) // (2 * a[1])


def sixty_fourths(a):
    """The number in 64ths, rounded to an integer."""
    # The multiplication has no limits, so it does not go through `multiply`.
    return nearest((64 * a[0], a[1]))
