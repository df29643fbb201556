"""Rows of pixels, read from nybbles that may be wrong.

Where the nybbles break a rule, `BadFile` is raised with the index of the bad nybble, or with the
length of the list if the nybbles end too early.
"""

from fontwinding.errors import BadFile
from fontwinding.nybbles import length_size, read_length, zeros_at

BITS_WAY = 14
NYBBLE_BITS = 4
MANY_REPEATS = 14
ONE_REPEAT = 15
MOST_ZEROS = 2


def unpacked(nybbles, way, columns, count, first_pixel):
    """The tuple of the rows, and the index after the last nybble that is read."""
    if way == BITS_WAY:
        return unpacked_bits(nybbles, columns, count)
    unpacker = Unpacker(nybbles, way, columns, count)
    pixel = first_pixel
    while not unpacker.is_done():
        unpacker.read_run(pixel)
        pixel = 1 - pixel
    return unpacker.result()


def unpacked_bits(nybbles, columns, count):
    """The rows of which four pixels each are a nybble, and the index after the last nybble."""
    total = columns * count
    size = (total + NYBBLE_BITS - 1) // NYBBLE_BITS
    if len(nybbles) < size:
        raise BadFile(len(nybbles))
    pixels = []
    for nybble in nybbles[:size]:
        pixels.extend([nybble >> 3 & 1, nybble >> 2 & 1, nybble >> 1 & 1, nybble & 1])
    if 1 in pixels[total:]:
        raise BadFile(size - 1)
    rows = tuple(tuple(pixels[at:at + columns]) for at in range(0, total, columns))
    return (rows, size)


class Unpacker:
    """Rows that grow run by run, as the nybbles are read."""

    def __init__(self, nybbles, way, columns, count):
        self._nybbles = nybbles
        self._way = way
        self._columns = columns
        self._count = count
        self._at = 0
        self._done = []
        # The pixels of the current row so far, and its repetition count, None if it has none.
        self._line = []
        self._repeats = None

    def is_done(self):
        """True if all pixels are there."""
        return len(self._done) >= self._count

    def result(self):
        """The tuple of the rows, and the index after the last nybble that is read."""
        return (tuple(self._done), self._at)

    def read_run(self, pixel):
        """Reads the length of a run, perhaps with a repetition count before it, and adds the run's pixels."""
        while self._is_at_repeats():
            if self._repeats is not None:
                raise BadFile(self._at)
            self._repeats = self._read_repeats()
        length = self._read_length()
        if length > self._pixels_ahead():
            raise BadFile(self._at - 1)
        for _ in range(length):
            self._add_pixel(pixel)

    def _is_at_repeats(self):
        return self._at < len(self._nybbles) and self._nybbles[self._at] >= MANY_REPEATS

    def _read_repeats(self):
        first = self._nybbles[self._at]
        self._at += 1
        repeats = 1
        if first == MANY_REPEATS:
            if self._is_at_repeats():
                raise BadFile(self._at)
            repeats = self._read_length()
        if repeats > self._count - len(self._done) - 1:
            raise BadFile(self._at - 1)
        return repeats

    def _read_length(self):
        if zeros_at(self._nybbles, self._at) > MOST_ZEROS:
            raise BadFile(self._at + MOST_ZEROS)
        if self._at + length_size(self._nybbles, self._at, self._way) > len(self._nybbles):
            raise BadFile(len(self._nybbles))
        length, self._at = read_length(self._nybbles, self._at, self._way)
        return length

    def _repeats_ahead(self):
        if self._repeats is None:
            return 0
        return self._repeats

    def _pixels_ahead(self):
        rows = self._count - len(self._done) - self._repeats_ahead()
        return rows * self._columns - len(self._line)

    def _add_pixel(self, pixel):
        self._line.append(pixel)
        if len(self._line) == self._columns:
            self._done.extend([tuple(self._line)] * (1 + self._repeats_ahead()))
            self._line = []
            self._repeats = None
