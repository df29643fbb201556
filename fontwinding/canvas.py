"""The character that is open, and the characters that are made."""

from fontwinding.errors import OutOfRange, TooMany, WrongKind, WrongOrder
from fontwinding.filling import fill_rows
from fontwinding.hulls import corners
from fontwinding.outlines import grid_point, outline
from fontwinding.pens import cover_rows
from fontwinding.pictures import Picture
from fontwinding.ratios import ZERO, compare, sixty_fourths
from fontwinding.values import whole_up_to

MOST_CODE = 127
MOST_SIZE = (100, 1)
MOST_FILLS = 60
MOST_DRAWS = 20
MOST_CHARACTERS = 24


class Canvas:
    """A picture and a pen, with which one character after the other is made."""

    def __init__(self):
        self.picture = Picture()
        # The code and the sizes of the open character, None if no character is open.
        self.opened = None
        self._pen = [(0, 0)]
        self._italic = 0
        self._fills = 0
        self._draws = 0
        self._characters = {}

    def pen_corners(self):
        """The list of the corners of the pen."""
        return list(self._pen)

    def characters_made(self):
        """The tuple of the characters in ascending order of their codes."""
        return tuple(self._characters[code] for code in sorted(self._characters))

    def begin(self, code, sizes):
        """Opens a character with a code and a width, a height and a depth, all of them numbers."""
        if self.opened is not None:
            raise WrongOrder("a character is open")
        opened = (whole_up_to(code, MOST_CODE), tuple(size_in_64ths(size) for size in sizes))
        self.opened = opened
        self.picture.wipe()
        self._pen = [(0, 0)]
        self._italic = 0

    def _check_opened(self):
        if self.opened is None:
            raise WrongOrder("no character is open")

    def set_italic(self, number):
        """Sets the italic correction of the open character."""
        self._check_opened()
        self._italic = size_in_64ths(number)

    def fill(self, path, factor):
        """Adds the winding numbers of a cycle, times 1 or -1, to the weights."""
        self._check_opened()
        if not path[2]:
            raise WrongKind("a path is not a cycle")
        if self._fills >= MOST_FILLS:
            raise TooMany(f"there are {MOST_FILLS} fills and unfills already")
        self.picture.add_rows(fill_rows(outline(path)), factor=factor)
        self._fills += 1

    def draw(self, path, factor):
        """Adds 1 or -1 to the weight of each pixel that a path covers with the pen."""
        self._check_opened()
        if self._draws >= MOST_DRAWS:
            raise TooMany(f"there are {MOST_DRAWS} draws and undraws already")
        self.picture.add_rows(cover_rows(self._pen, outline(path)), factor=factor)
        self._draws += 1

    def pick_up(self, path):
        """Makes the corners of the knots of a path the pen."""
        self._check_opened()
        self._pen = corners([grid_point(knot) for knot in path[0]])

    def end(self):
        """Completes the open character."""
        self._check_opened()
        code, sizes = self.opened
        if code not in self._characters and len(self._characters) >= MOST_CHARACTERS:
            raise TooMany(f"there are {MOST_CHARACTERS} characters already")
        left, bottom, rows = least_rectangle(self.picture.on_pixels())
        self._characters[code] = (code, left, bottom, rows, sizes + (self._italic,))
        self.opened = None


def size_in_64ths(number):
    """A size of a character, a number from 0 to 100, in 64ths."""
    if compare(number, ZERO) < 0 or compare(number, MOST_SIZE) > 0:
        raise OutOfRange("a size is not from 0 to 100")
    return sixty_fourths(number)


def least_rectangle(pixels):
    """The left, the bottom and the rows, the top row first, of the least rectangle with all these pixels."""
    if not pixels:
        return (0, 0, ())
    columns = [pixel[0] for pixel in pixels]
    heights = [pixel[1] for pixel in pixels]
    left = min(columns)
    bottom = min(heights)
    rows = [[0] * (max(columns) - left + 1) for _ in range(bottom, max(heights) + 1)]
    for i, j in pixels:
        rows[j - bottom][i - left] = 1
    return (left, bottom, tuple(tuple(row) for row in rows[::-1]))
