"""The bytes of a file, read one after the other."""

from fontwinding.errors import BadFile

BYTE = 256


class ByteReader:
    """The bytes of a file, and the place of the next one."""

    def __init__(self, data):
        self._data = list(data)
        self._at = 0

    def place(self):
        """The index of the next byte."""
        return self._at

    def is_at_end(self):
        """True if all bytes have been read."""
        return self._at >= len(self._data)

    def take_byte(self, most):
        """Reads a byte, which must not be greater than `most`."""
        if self.is_at_end():
            raise BadFile(len(self._data))
        byte = self._data[self._at]
        if byte > most:
            raise BadFile(self._at)
        self._at += 1
        return byte

    def take_number(self, most):
        """Reads a number of two bytes, which must not be greater than `most`."""
        high = self.take_byte(BYTE - 1)
        number = BYTE * high + self.take_byte(BYTE - 1)
        if number > most:
            raise BadFile(self._at - 1)
        return number

    def take_up_to(self, count):
        """Reads this many bytes, or as many as there are, and returns the list of them."""
        taken = self._data[self._at:self._at + count]
        self._at += len(taken)
        return taken
