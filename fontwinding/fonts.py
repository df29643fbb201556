"""Fonts: characters with their metrics, ligatures and kerns."""

from fontwinding.errors import OutOfRange
from fontwinding.metrics import LIMITS, table, table_value
from fontwinding.settings import set_line

WIDTH = 0


class Font:
    """Characters in ascending order of their codes, steps, and labels in ascending order of their codes."""

    def __init__(self, characters, steps, labels):
        self.characters = tuple(characters)
        self.steps = tuple(steps)
        self.labels = tuple(labels)

    def __len__(self):
        return len(self.characters)

    def __contains__(self, code):
        return code in [character[0] for character in self.characters]

    def __iter__(self):
        return iter(self.characters)

    def character(self, code):
        """The character with a code."""
        for character in self.characters:
            if character[0] == code:
                return character
        raise OutOfRange("there is no character with this code")

    def pixel(self, code, i, j):
        """True if a pixel of a character is on."""
        _, left, bottom, rows, _ = self.character(code)
        column = i - left
        # The top row is the first one.
        row = len(rows) - 1 - (j - bottom)
        if not 0 <= row < len(rows) or not 0 <= column < len(rows[row]):
            return False
        return rows[row][column] == 1

    def table(self, metric):
        """The list of the table of a metric."""
        return table(self._metric_values(metric), LIMITS[metric])

    def table_value(self, code, metric):
        """The table value of a metric of a character."""
        value = self.character(code)[4][metric]
        return table_value(self._metric_values(metric), LIMITS[metric], value)

    def _metric_values(self, metric):
        return [character[4][metric] for character in self.characters]

    def line(self, codes):
        """The glyphs and the kerns of a line."""
        return set_line(self.steps, self.labels, codes)

    def width(self, codes):
        """The width of the set line, in 64ths."""
        glyphs, kerns = self.line(codes)
        widths = self._widths()
        return sum([widths.get(glyph, 0) for glyph in glyphs]) + sum(kerns)

    def positions(self, codes):
        """The list of the positions of the glyphs of the set line, in 64ths."""
        glyphs, kerns = self.line(codes)
        widths = self._widths()
        place = kerns[0]
        found = []
        for glyph, kern in zip(glyphs, kerns[1:]):
            found.append(place)
            place += widths.get(glyph, 0) + kern
        return found

    def _widths(self):
        return {character[0]: self.table_value(character[0], WIDTH) for character in self.characters}
