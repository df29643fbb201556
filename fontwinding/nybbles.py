"""Lengths, written as nybbles in one of the ways 0 to 13."""

LAST_RUN_WAY = 13
BASE = 16
# The digits of a length in hexadecimal begin at this number.
FIRST_IN_DIGITS = 16


def two_nybble_lengths(way):
    """How many lengths are written in two nybbles without a nybble 0."""
    return BASE * (LAST_RUN_WAY - way)


def write_length(n, way):
    """The list of the nybbles of a length."""
    if n <= way:
        return [n]
    rest = n - way - 1
    if rest < two_nybble_lengths(way):
        return [way + 1 + rest // BASE, rest % BASE]
    return written_digits(rest - two_nybble_lengths(way) + FIRST_IN_DIGITS)


def written_digits(number):
    """The hexadecimal digits of a number, and before them one nybble 0 for each digit but the first."""
    digits = []
    while number > 0:
        number, digit = divmod(number, BASE)
        digits.append(digit)
    return [0] * (len(digits) - 1) + digits[::-1]


def read_length(nybbles, index, way):
    """The length that begins at an index of a list of nybbles, and the index after it."""
    zeros = zeros_at(nybbles, index)
    end = index + length_size(nybbles, index, way)
    if zeros > 0:
        number = 0
        for digit in nybbles[index + zeros:end]:
            number = number * BASE + digit
        return (number - FIRST_IN_DIGITS + two_nybble_lengths(way) + way + 1, end)
    first = nybbles[index]
    if first <= way:
        return (first, end)
    return (way + 1 + BASE * (first - way - 1) + nybbles[index + 1], end)


def zeros_at(nybbles, index):
    """How many nybbles 0 stand at an index, one after the other."""
    end = index
    while end < len(nybbles) and nybbles[end] == 0:
        end += 1
    return end - index


def length_size(nybbles, index, way):
    """How many nybbles the length that begins at an index has; the list may end before the last of them."""
    zeros = zeros_at(nybbles, index)
    if zeros > 0:
        return 2 * zeros + 1
    if index < len(nybbles) and nybbles[index] > way:
        return 2
    return 1
