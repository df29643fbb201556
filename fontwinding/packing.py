"""Rows of pixels, packed as nybbles in one of fifteen ways."""

from fontwinding.nybbles import write_length
from fontwinding.unpacking import BITS_WAY, MANY_REPEATS, NYBBLE_BITS, ONE_REPEAT, unpacked


def pack(rows, way):
    """The list of the nybbles of rows in a way."""
    lines = [tuple(row) for row in rows]
    if way == BITS_WAY:
        return packed_bits(lines)
    return packed_runs(lines, way)


def best_way(rows):
    """The way with the fewest nybbles, and of several such ways the lowest."""
    best = 0
    fewest = len(pack(rows, 0))
    for way in range(1, BITS_WAY + 1):
        count = len(pack(rows, way))
        if count < fewest:
            best = way
            fewest = count
    return best


def unpack(nybbles, way, columns, count, first_pixel):
    """The tuple of the rows that were packed as these nybbles."""
    return unpacked(nybbles, way, columns, count, first_pixel)[0]


def packed_bits(lines):
    """The nybbles of rows, four pixels each."""
    pixels = [pixel for line in lines for pixel in line]
    nybbles = []
    for at in range(0, len(pixels), NYBBLE_BITS):
        four = pixels[at:at + NYBBLE_BITS] + [0] * NYBBLE_BITS
        nybbles.append(8 * four[0] + 4 * four[1] + 2 * four[2] + four[3])
    return nybbles


def packed_runs(lines, way):
    """The nybbles of rows in a way from 0 to 13."""
    kept, repeats = without_repetitions(lines)
    nybbles = []
    for row, length in runs_of(kept):
        # The first run that begins in a row takes its repetition count with it.
        nybbles.extend(repeat_count(repeats[row], way))
        repeats[row] = 0
        nybbles.extend(write_length(length, way))
    return nybbles


def without_repetitions(lines):
    """The rows that are no repetitions, and for each of them the number of its repetitions."""
    kept = []
    repeats = []
    for line in lines:
        if kept and line == kept[-1] and 0 in line and 1 in line:
            repeats[-1] += 1
        else:
            kept.append(line)
            repeats.append(0)
    return (kept, repeats)


def runs_of(lines):
    """The list of the runs of equal pixels in rows one after the other: the row in which it begins, and its length."""
    runs = []
    last = None
    for row, line in enumerate(lines):
        for pixel in line:
            if pixel == last:
                runs[-1] = (runs[-1][0], runs[-1][1] + 1)
            else:
                runs.append((row, 1))
            last = pixel
    return runs


def repeat_count(count, way):
    """The nybbles of a repetition count, none if it is 0."""
    if count == 0:
        return []
    if count == 1:
        return [ONE_REPEAT]
    return [MANY_REPEATS] + write_length(count, way)
