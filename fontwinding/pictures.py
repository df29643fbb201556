"""Pictures: a weight for each pixel of the canvas."""

from fontwinding.errors import OutOfRange, TooGreat
from fontwinding.filling import BOTTOM, LEFT, SIZE, blank_rows

GREATEST_WEIGHT = 9999


class Picture:
    """The weights of all pixels of the canvas, 0 at first."""

    def __init__(self):
        self._weights = blank_rows()

    def weight(self, i, j):
        """The weight of a pixel."""
        row = j - BOTTOM
        column = i - LEFT
        if not is_inside(row, column):
            raise OutOfRange("there is no such pixel on the canvas")
        return self._weights[row][column]

    def rows(self):
        """The rows of pixels with the weights."""
        return [list(row) for row in self._weights]

    def add_rows(self, rows, *, factor=1):
        """Adds to each weight the factor times the item of the rows."""
        self._weights = sums(self._weights, rows, factor)

    def wipe(self):
        """Sets all weights to 0."""
        self._weights = blank_rows()

    def total(self):
        """The sum of the weights."""
        return sum([sum(row) for row in self._weights])

    def on_pixels(self):
        """The list of the pixels with a weight greater than 0, row by row from the lowest one."""
        found = []
        for row, weights in enumerate(self._weights):
            for column, weight in enumerate(weights):
                if weight > 0:
                    found.append((column + LEFT, row + BOTTOM))
        return found

    def shifted(self, di, dj):
        """A new picture with the weights moved; those that leave the canvas are lost."""
        picture = Picture()
        picture._weights = moved_rows(self._weights, di, dj)
        return picture

    def __add__(self, other):
        picture = Picture()
        picture._weights = sums(self._weights, other._weights, 1)
        return picture

    def __sub__(self, other):
        picture = Picture()
        picture._weights = sums(self._weights, other._weights, -1)
        return picture

    def __neg__(self):
        picture = Picture()
        picture._weights = sums(blank_rows(), self._weights, -1)
        return picture


def is_inside(row, column):
    """True if the rows of pixels have an item at a row and a column."""
    return 0 <= row < SIZE and 0 <= column < SIZE


def sums(rows, others, factor):
    """The sums of the items of rows and the factor times those of other rows."""
    return [
        [checked(item + factor * addend) for item, addend in zip(row, other)] for row, other in zip(rows, others)
    ]


def checked(weight):
    """The weight, which must be in the range of weights."""
    if not -GREATEST_WEIGHT <= weight <= GREATEST_WEIGHT:
        raise TooGreat("a weight leaves its range")
    return weight


def moved_rows(rows, di, dj):
    """The rows with each item moved by `di` columns and `dj` rows."""
    return [[item_or_zero(rows, row - dj, column - di) for column in range(SIZE)] for row in range(SIZE)]


def item_or_zero(rows, row, column):
    """The item of the rows at a row and a column, 0 if there is none."""
    if is_inside(row, column):
        return rows[row][column]
    return 0
