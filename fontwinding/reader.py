"""The tokens of a text, read one after the other by the grammar."""

from fontwinding.errors import InvalidSyntax


class Reader:
    """The tokens as they are written, and the place of the next one that is read."""

    def __init__(self, found, end):
        # The end of the text is a token of its own, so that there always is a next one.
        self._tokens = found + [("end", "", end)]
        self._at = 0

    def next_kind(self):
        """The kind of the next token, `"end"` at the end of the text."""
        return self._tokens[self._at][0]

    def next_text(self):
        """The text of the next token, empty at the end of the text."""
        return self._tokens[self._at][1]

    def text_after(self):
        """The text of the token after the next one, which is not the end of the text."""
        return self._tokens[self._at + 1][1]

    def place(self):
        """The index in the text at which the next token begins."""
        return self._tokens[self._at][2]

    def take(self):
        """Reads the next token, which is not the end of the text, and returns its text."""
        taken = self.next_text()
        self._at += 1
        return taken

    def skips(self, wanted):
        """Reads the next token if it has this text, and returns True if it was so."""
        # A text has one kind only: no name is a word, and neither of them is a number or a sign.
        if self.next_text() != wanted:
            return False
        self._at += 1
        return True

    def expect(self, wanted):
        """Reads the next token, which must have this text."""
        if not self.skips(wanted):
            raise InvalidSyntax(self.place())

    def take_name(self):
        """Reads the next token, which must be a name, and returns the name."""
        if self.next_kind() != "name":
            raise InvalidSyntax(self.place())
        return self.take()

    def take_one_of(self, texts):
        """Reads the next token, which must have one of these texts, and returns its text."""
        if self.next_text() not in texts:
            raise InvalidSyntax(self.place())
        return self.take()
