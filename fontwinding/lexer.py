"""The tokens of a program."""

from fontwinding.errors import InvalidSyntax, TooLong
from fontwinding.ratios import ratio

MOST_CHARACTERS = 6000
MOST_LETTERS = 16
MOST_DIGITS = 15

WORDS = (
    "and", "area", "beginchar", "bot", "controls", "cycle", "declare", "def", "div", "dot", "draw", "edge", "else",
    "elseif", "endchar", "enddef", "endfor", "false", "fi", "fill", "floor", "for", "identity", "if", "inverse",
    "italic", "kern", "known", "length", "lft", "ligtable", "max", "min", "mod", "not", "numeric", "or", "pair",
    "path", "pickup", "pix", "point", "reverse", "rotated", "round", "rt", "scaled", "shifted", "show", "slanted",
    "step", "subpath", "tension", "top", "transform", "transformed", "true", "undraw", "unfill", "until", "way",
    "whatever", "winding", "xpart", "xscaled", "ypart", "yscaled",
)

# Longer signs stand before the signs with which they begin.
SIGNS = (
    "|=:|>>", "|=:|>", "|=:|", "|=:>", "=:|>", "|=:", "=:|", "=:", ":=", "==", "<>", "<=", ">=", "--", "..",
    ";", ",", ":", "(", ")", "[", "]", "+", "-", "*", "/", "=", "<", ">",
)


def tokens(text):
    """The list of the tokens, each a tuple `(kind, value, position)`."""
    return [(kind, value_of(kind, written), position) for kind, written, position in written_tokens(text)]


def value_of(kind, written):
    """The value of a token: its text, or the number that it stands for."""
    if kind == "number":
        return number_of(written)
    return written


def number_of(digits):
    """The number that digits stand for, perhaps with a dot among them."""
    whole, _, part = digits.partition(".")
    return ratio(int(whole + part), int("1" + "0" * len(part)))


def written_tokens(text):
    """The list of the tokens as they are written, each a tuple `(kind, text, position)`."""
    if len(text) > MOST_CHARACTERS:
        raise TooLong(f"a program has at most {MOST_CHARACTERS} characters")
    found = []
    at = 0
    while at < len(text):
        if text[at] in " \n":
            at += 1
        else:
            kind, end = token_at(text, at)
            found.append((kind, text[at:end], at))
            at = end
    return found


def token_at(text, at):
    """The kind of the token that begins at an index, and the index behind it."""
    if is_letter(text[at]):
        return letters_at(text, at)
    if is_digit(text[at]):
        return number_at(text, at)
    for sign in SIGNS:
        if text.startswith(sign, at):
            return ("sign", at + len(sign))
    raise InvalidSyntax(at)


def letters_at(text, at):
    """The kind of the name or word that begins at an index, and the index behind it."""
    end = at
    while end < len(text) and is_letter(text[end]):
        end += 1
    if end - at > MOST_LETTERS:
        raise InvalidSyntax(at)
    if text[at:end] in WORDS:
        return ("word", end)
    return ("name", end)


def number_at(text, at):
    """The kind of the number that begins at an index, and the index behind it."""
    end = behind_digits(text, at)
    digits = end - at
    if text.startswith(".", end):
        last = behind_digits(text, end + 1)
        # A dot that is not followed by a digit does not belong to the number.
        if last > end + 1:
            digits += last - end - 1
            end = last
    if digits > MOST_DIGITS:
        raise InvalidSyntax(at)
    return ("number", end)


def behind_digits(text, at):
    """The index behind the digits that begin at an index."""
    while at < len(text) and is_digit(text[at]):
        at += 1
    return at


def is_letter(sign):
    """True for the letters of names and words."""
    return "a" <= sign <= "z"


def is_digit(sign):
    """True for the digits of numbers; other signs that Python takes for digits are none."""
    return "0" <= sign <= "9"
