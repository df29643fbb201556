"""Fonts, written as bytes and read from bytes."""

from fontwinding.bytereader import BYTE, ByteReader
from fontwinding.errors import BadFile
from fontwinding.filling import BOTTOM, LEFT, SIZE
from fontwinding.fonts import Font
from fontwinding.ligatures import EDGE, SIGN_MEANINGS, endless_pairs
from fontwinding.packing import best_way, pack
from fontwinding.unpacking import BITS_WAY, unpacked

MOST_CHARACTERS = 24
MOST_CODE = 127
MOST_METRIC = 6400
METRICS = 4
MOST_PACKED = 2304
MOST_STEPS = 32
MOST_LABELS = 32
MOST_KERN = 6400
NYBBLE = 16
# In the byte with the way.
FIRST_PIXEL_ON = 8
# In the byte with the action of a step.
LAST_STEP = 128


def write_font(font):
    """The file of a font, a list of bytes."""
    data = [len(font.characters)]
    for character in font.characters:
        data.extend(character_bytes(character))
    data.append(len(font.steps))
    for step in font.steps:
        data.extend(step_bytes(step))
    data.append(len(font.labels))
    for code, index in font.labels:
        data.extend([code, index])
    return data


def character_bytes(character):
    """The bytes of a character."""
    code, left, bottom, rows, metrics = character
    nybbles = []
    head = [0] * 5
    if rows:
        way = best_way(rows)
        nybbles = pack(rows, way)
        head = [way_byte(way, rows[0][0]), len(rows[0]), len(rows), left - LEFT, bottom - BOTTOM]
    data = [code] + head
    for metric in metrics:
        data.extend(number_bytes(metric))
    packed = packed_bytes(nybbles)
    return data + number_bytes(len(packed)) + packed


def way_byte(way, first_pixel):
    """The byte with the way and, except for the way that has all pixels, the first pixel."""
    if way != BITS_WAY and first_pixel == 1:
        return NYBBLE * way + FIRST_PIXEL_ON
    return NYBBLE * way


def number_bytes(number):
    """The two bytes of a number, the higher one first."""
    return [number // BYTE, number % BYTE]


def packed_bytes(nybbles):
    """The bytes of nybbles, two each; a missing last one is 0."""
    whole = nybbles + [0]
    return [NYBBLE * whole[at] + whole[at + 1] for at in range(0, len(nybbles), 2)]


def step_bytes(step):
    """The bytes of a step."""
    right, action, is_last = step
    mark = 0
    if is_last:
        mark = LAST_STEP
    if action[0] == "kern":
        return [right, mark] + number_bytes(action[1] + MOST_KERN)
    meanings = list(SIGN_MEANINGS.values())
    return [right, mark + 1 + meanings.index(action[2:]), action[1]]


def read_font(data):
    """The font of a file, a list of bytes."""
    reader = ByteReader(data)
    characters = read_characters(reader)
    place = reader.place()
    steps = read_steps(reader)
    labels = read_labels(reader, len(steps))
    if not reader.is_at_end():
        raise BadFile(reader.place())
    if endless_pairs(steps, labels):
        raise BadFile(place)
    return Font(characters, steps, labels)


def read_characters(reader):
    """The tuple of the characters."""
    characters = []
    last = -1
    for _ in range(reader.take_byte(MOST_CHARACTERS)):
        last = read_next_code(reader, MOST_CODE, last)
        characters.append(read_character(reader, last))
    return tuple(characters)


def read_next_code(reader, most, last):
    """A code, which must be greater than the last one."""
    code = reader.take_byte(most)
    if code <= last:
        raise BadFile(reader.place() - 1)
    return code


def read_character(reader, code):
    """A character, behind its code."""
    way, first_pixel = read_way(reader)
    columns = reader.take_byte(SIZE)
    count = reader.take_byte(SIZE)
    if (count == 0) != (columns == 0) or (count == 0 and (way, first_pixel) != (0, 0)):
        raise BadFile(reader.place() - 1)
    left = read_border(reader, columns, LEFT)
    bottom = read_border(reader, count, BOTTOM)
    metrics = []
    while len(metrics) < METRICS:
        metrics.append(reader.take_number(MOST_METRIC))
    if count == 0:
        reader.take_number(0)
        return (code, left, bottom, (), tuple(metrics))
    size = reader.take_number(MOST_PACKED)
    rows = read_rows(reader, size, (way, columns, count, first_pixel))
    return (code, left, bottom, rows, tuple(metrics))


def read_way(reader):
    """The way of a character, and its first pixel."""
    byte = reader.take_byte(NYBBLE * BITS_WAY)
    way, mark = divmod(byte, NYBBLE)
    if mark not in (0, FIRST_PIXEL_ON):
        raise BadFile(reader.place() - 1)
    return (way, mark // FIRST_PIXEL_ON)


def read_border(reader, size, border):
    """The left column or the bottom row of pixels of this size on a canvas with this border."""
    if size == 0:
        return reader.take_byte(0)
    return reader.take_byte(SIZE - size) + border


def read_rows(reader, size, shape):
    """The rows that are packed in this many bytes; `shape` has the way, the columns, the rows and the first pixel."""
    start = reader.place()
    nybbles = []
    for byte in reader.take_up_to(size):
        nybbles.extend([byte // NYBBLE, byte % NYBBLE])
    way, columns, count, first_pixel = shape
    try:
        rows, after = unpacked(nybbles, way, columns, count, first_pixel)
    except BadFile as wrong:
        raise BadFile(start + wrong.position // 2) from None
    if after % 2 == 1 and nybbles[after] != 0:
        raise BadFile(start + after // 2)
    end = (after + 1) // 2
    # If the file ends where this byte is missing, this is the length of the file.
    if end < size:
        raise BadFile(start + end)
    return rows


def read_steps(reader):
    """The tuple of the steps."""
    count = reader.take_byte(MOST_STEPS)
    steps = []
    while len(steps) < count:
        steps.append(read_step(reader, len(steps) == count - 1))
    return tuple(steps)


def read_step(reader, must_be_last):
    """A step, which must have the mark of a last one if it is the last one of the file."""
    right = reader.take_byte(EDGE)
    is_last, number = divmod(reader.take_byte(BYTE - 1), LAST_STEP)
    if number > len(SIGN_MEANINGS) or (must_be_last and not is_last):
        raise BadFile(reader.place() - 1)
    if number == 0:
        return (right, ("kern", reader.take_number(2 * MOST_KERN) - MOST_KERN), is_last == 1)
    meanings = list(SIGN_MEANINGS.values())
    action = ("ligature", reader.take_byte(MOST_CODE)) + meanings[number - 1]
    return (right, action, is_last == 1)


def read_labels(reader, steps):
    """The tuple of the labels, when there are this many steps."""
    most = MOST_LABELS
    if steps == 0:
        most = 0
    labels = []
    last = -1
    for _ in range(reader.take_byte(most)):
        last = read_next_code(reader, EDGE, last)
        labels.append((last, reader.take_byte(steps - 1)))
    return tuple(labels)
