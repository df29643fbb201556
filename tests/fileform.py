"""The rules of points 62, 65 and 66, read from the document once more, for tests of what the program reads."""


class Bad(Exception):
    def __init__(self, position):
        super().__init__(position)
        self.position = position


class Bytes:
    """A file; each rule is asked by `need`, with the index of the byte that is bad if it does not hold."""

    def __init__(self, data):
        self.data = data
        self.at = 0

    def next(self, *rules):
        if self.at == len(self.data):
            raise Bad(len(self.data))
        self.at += 1
        byte = self.data[self.at - 1]
        for rule in rules:
            self.need(rule(byte))
        return byte

    def need(self, holds):
        if not holds:
            raise Bad(self.at - 1)

    def two(self, most):
        high = self.next()
        return 256 * high + self.next(lambda low: 256 * high + low <= most)


class Nybbles:
    """The nybbles of the packed bytes, taken from the file itself."""

    def __init__(self, file, count):
        self.file = file
        self.begin = 2 * file.at
        self.end = 2 * (file.at + count)
        self.at = self.begin

    def bad(self, at):
        raise Bad(at // 2)

    def peek(self):
        place = self.at // 2
        if self.at == self.end or place >= len(self.file.data):
            self.bad(2 * min(place, len(self.file.data)))
        byte = self.file.data[place]
        return byte // 16 if self.at % 2 == 0 else byte % 16

    def next(self):
        nybble = self.peek()
        self.at += 1
        return nybble

    def length(self, way, most):
        m = 16 * (13 - way)
        first = self.next()
        if first == 0:
            digits = 2
            second = self.next()
            if second == 0:
                digits = 3
                second = self.next()
                if second == 0:
                    self.bad(self.at - 1)
            number = second
            for _ in range(digits - 1):
                number = 16 * number + self.next()
            length = number + way + m - 15
        elif first <= way:
            length = first
        else:
            length = way + 1 + 16 * (first - way - 1) + self.next()
        if length > most:
            self.bad(self.at - 1)
        return length


def runs(nybbles, way, columns, count, pixel):
    """The rows, from lengths and repetition counts."""
    rows = []
    row = []
    repeats = None
    while len(rows) < count:
        while nybbles.peek() >= 14:
            sign = nybbles.next()
            if repeats is not None:
                nybbles.bad(nybbles.at - 1)
            below = count - len(rows) - 1
            if sign == 15:
                if below < 1:
                    nybbles.bad(nybbles.at - 1)
                repeats = 1
            else:
                if nybbles.peek() >= 14:
                    nybbles.bad(nybbles.at)
                repeats = nybbles.length(way, below)
        ahead = (count - len(rows) - (repeats or 0)) * columns - len(row)
        for _ in range(nybbles.length(way, ahead)):
            row.append(pixel)
            if len(row) == columns:
                rows += [tuple(row)] * (1 + (repeats or 0))
                row, repeats = [], None
        pixel = 1 - pixel
    return tuple(rows)


def bits(nybbles, columns, count):
    """The rows, four pixels for each nybble."""
    pixels = []
    while len(pixels) < columns * count:
        nybble = nybbles.next()
        four = [int(digit) for digit in f"{nybble:04b}"]
        left = columns * count - len(pixels)
        if any(four[left:]):
            nybbles.bad(nybbles.at - 1)
        pixels += four[:left]
    return tuple(tuple(pixels[at:at + columns]) for at in range(0, columns * count, columns))


def character(file, last):
    code = file.next(lambda b: b <= 127, lambda b: b > last)
    head = file.next(lambda b: b // 16 <= 14, lambda b: b % 8 == 0, lambda b: b // 16 != 14 or b % 16 == 0)
    columns = file.next(lambda b: b <= 48)
    count = file.next(lambda b: b <= 48, lambda b: (b == 0) == (columns == 0), lambda b: b > 0 or head == 0)
    left = file.next(lambda b: b + columns <= 48, lambda b: b == 0 or columns > 0) - 8
    bottom = file.next(lambda b: b + count <= 48, lambda b: b == 0 or count > 0) - 16
    metrics = tuple(file.two(6400) for _ in range(4))
    size = file.two(2304 if count else 0)
    if count == 0:
        return (code, 0, 0, (), metrics)
    nybbles = Nybbles(file, size)
    if head // 16 == 14:
        rows = bits(nybbles, columns, count)
    else:
        rows = runs(nybbles, head // 16, columns, count, head // 8 % 2)
    if nybbles.at % 2 == 1 and nybbles.next() != 0:
        nybbles.bad(nybbles.at - 1)
    if nybbles.at < nybbles.end:
        nybbles.bad(nybbles.at)
    file.at += size
    return (code, left, bottom, rows, metrics)


SIGNS = ((False, False, 0), (True, False, 0), (True, False, 1), (False, True, 0), (False, True, 1), (True, True, 0),
         (True, True, 1), (True, True, 2))


def step(file, is_final):
    right = file.next(lambda b: b <= 128)
    mark = file.next(lambda b: b % 128 <= 8, lambda b: b >= 128 or not is_final)
    if mark % 128 == 0:
        return (right, ("kern", file.two(12800) - 6400), mark >= 128)
    return (right, ("ligature", file.next(lambda b: b <= 127)) + SIGNS[mark % 128 - 1], mark >= 128)


def parts_of(data):
    """The characters, steps and labels of a file; endless pairs are not looked for."""
    file = Bytes(data)
    characters = []
    for _ in range(file.next(lambda b: b <= 24)):
        characters.append(character(file, characters[-1][0] if characters else -1))
    place = file.at
    count = file.next(lambda b: b <= 32)
    steps = [step(file, at == count - 1) for at in range(count)]
    labels = []
    for _ in range(file.next(lambda b: b <= 32, lambda b: b == 0 or count > 0)):
        last = labels[-1][0] if labels else -1
        code = file.next(lambda b: b <= 128, lambda b: b > last)
        labels.append((code, file.next(lambda b: b < count)))
    if file.at < len(data):
        raise Bad(file.at)
    return tuple(characters), tuple(steps), tuple(labels), place
