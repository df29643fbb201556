"""Fonts for tests: made by hand, made at random, and compared."""

from itertools import product

from fontwinding.fonts import Font
from fontwinding.ligatures import endless_pairs
from tests.lines import MEANINGS, ligature, table_of
from tests.test_packing import EXAMPLES

NO_ROWS = (65, 0, 0, (), (64, 128, 0, 32))
STEPS = tuple((10 + at, ligature(sign, 20 + at), at % 3 == 2) for at, sign in enumerate(MEANINGS)) + (
    (128, ("kern", -6400), False), (127, ("kern", 6400), False), (0, ("kern", 0), True))
LABELS = ((0, 3), (65, 0), (127, 10), (128, 8))


def character(code, rows, left=0, bottom=0, metrics=(64, 64, 0, 0)):
    return (code, left, bottom, rows, metrics)


def examples():
    """Fonts with no character, one, 24, with and without pixels, steps and labels."""
    fonts = [Font((), (), ()), Font((NO_ROWS,), (), ()), Font((), STEPS, LABELS), Font((), STEPS[:3], ())]
    for rows in EXAMPLES:
        left, bottom = 40 - len(rows[0]), 32 - len(rows)
        fonts.append(Font((character(7, rows, -8, -16), character(9, rows, left, bottom, (6400, 0, 6400, 6400))),
                          STEPS, LABELS))
    many = []
    for at in range(24):
        metrics = (at, 257 * at, 256 * at, 6400 - at)
        if at % 5 == 0:
            many.append(character(5 * at, (), 0, 0, metrics))
        else:
            many.append(character(5 * at, EXAMPLES[at % len(EXAMPLES)], -8, -16, metrics))
    return fonts + [Font(tuple(many), STEPS, LABELS)]


def random_font(random):
    """A font of small characters, with a table without endless pairs."""
    characters = []
    for code in sorted(random.sample(range(128), random.randrange(4))):
        columns, count = random.randrange(1, 9), random.randrange(1, 9)
        rows = [tuple(random.randrange(2) for _ in range(columns))]
        while len(rows) < count:
            rows.append(rows[-1] if random.random() < 0.5 else tuple(random.randrange(2) for _ in range(columns)))
        left, bottom = random.randrange(-8, 41 - columns), random.randrange(-16, 33 - count)
        metrics = tuple(random.randrange(6401) for _ in range(4))
        characters.append(character(code, tuple(rows), left, bottom, metrics))
    return Font(tuple(characters), *random_table(random))


def random_table(random):
    """Steps and labels without endless pairs."""
    while True:
        codes = random.sample(range(129), 3)
        rules = {}
        for pair in product(codes, codes):
            if random.random() < 0.3:
                rules[pair] = ligature(random.choice(list(MEANINGS)), random.choice([c for c in codes if c < 128]))
            elif random.random() < 0.3:
                rules[pair] = ("kern", random.randrange(-6400, 6401))
        steps, labels = table_of(rules)
        if not endless_pairs(steps, labels):
            return steps, labels


def parts(font):
    return (font.characters, font.steps, font.labels)
