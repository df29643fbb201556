"""The errors that the program raises."""


class FontError(ValueError):
    """The base class of all errors that the program raises."""


class TooGreat(FontError):
    """A number or a weight would exceed its limits."""


class DivisionByZero(FontError):
    """A number would be divided by zero."""


class Contradiction(FontError):
    """An equation cannot hold together with the equations before it."""


class OutOfRange(FontError):
    """A value is not in the range that it must be in."""


class TooMany(FontError):
    """There would be more things of one kind than are allowed."""


class TooLong(FontError):
    """A text, a run or a line would be longer than is allowed."""


class TooDeep(FontError):
    """There would be more brackets or blocks within each other than are allowed."""


class WrongKind(FontError):
    """A value has not the kind that it must have."""


class UnknownValue(FontError):
    """A value that must be known is not known."""


class WrongOrder(FontError):
    """A statement does not stand where it may stand."""


class EndlessPair(FontError):
    """The setting of two neighbors would never end."""


class InvalidSyntax(FontError):
    """A text is not a program; `position` is the index at which it goes wrong."""

    def __init__(self, position):
        super().__init__(f"invalid syntax at {position}")
        self.position = position


class BadFile(FontError):
    """Bytes are not the file of a font; `position` is the index at which they go wrong."""

    def __init__(self, position):
        super().__init__(f"bad file at {position}")
        self.position = position
