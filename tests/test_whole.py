"""Point 2: the pixels of a font that is written and read are those with a winding number greater than zero."""

import unittest
from itertools import permutations
from random import Random

from fontwinding.compiler import compile_font
from fontwinding.files import read_font, write_font
from fontwinding.joins import join_points
from fontwinding.outlines import outline
from fontwinding.winding import winding_number
from tests.fonts import parts
from tests.support import number, points


def point_text(p):
    return f"({p[0]}, {p[1]})"


def cycle_text(corners, joins):
    """A join expression of a cycle with these corners."""
    signs = {"line": "--", "smooth": ".."}
    words = []
    for corner, join in zip(corners, joins):
        words += [point_text(corner), signs.get(join, f".. tension {join} ..")]
    return " ".join(words) + " cycle"


def cycle_outline(corners, joins):
    made = [join if join == "line" else ("smooth", number(1 if join == "smooth" else join)) for join in joins]
    return outline(join_points(points(*corners), made, cycle=True))


def on_pixels(filled, unfilled):
    """The pixels whose sum of winding numbers is greater than zero, center by center."""
    found = set()
    for i in range(-8, 40):
        for j in range(-16, 32):
            x, y = 64 * i + 32, 64 * j + 32
            total = sum(winding_number(one, x, y) for one in filled)
            if total > sum(winding_number(one, x, y) for one in unfilled):
                found.add((i, j))
    return found


def pixels_read(text, code=65):
    """The pixels of a character of a program that are on when the font has been written and read."""
    font = compile_font(text)
    again = read_font(write_font(font))
    assert parts(again) == parts(font)
    return {(i, j) for i in range(-12, 44) for j in range(-20, 36) if again.pixel(code, i, j)}


def program(*statements):
    return "beginchar(65, 10, 10, 10); " + " ".join(statements) + " endchar;"


class FillTest(unittest.TestCase):
    def test_random_outlines(self):
        random = Random(31)
        for _ in range(25):
            filled, unfilled, statements = [], [], []
            for _ in range(random.randrange(1, 6)):
                count = random.randrange(1, 7)
                corners = [(random.randrange(-12, 44), random.randrange(-20, 36)) for _ in range(count)]
                joins = [random.choice(("line", "smooth", "2", "3/4")) for _ in range(count)]
                word, outlines = random.choice((("fill", filled), ("fill", filled), ("unfill", unfilled)))
                outlines.append(cycle_outline(corners, joins))
                statements.append(f"{word} {cycle_text(corners, joins)};")
            self.assertEqual(pixels_read(program(*statements)), on_pixels(filled, unfilled))

    def test_an_outline_that_crosses_itself(self):
        star = [(0, 0), (20, 24), (-6, 10), (26, 10), (0, 24), (20, 0)]
        lines = ["line"] * 6
        self.assertEqual(pixels_read(program(f"fill {cycle_text(star, lines)};")),
                         on_pixels([cycle_outline(star, lines)], []))
        self.assertEqual(pixels_read(program(f"unfill {cycle_text(star, lines)};")),
                         on_pixels([], [cycle_outline(star, lines)]))

    def test_a_font_of_several_characters(self):
        corners = [(0, 0), (7, -3), (9, 9), (-4, 6)]
        texts = []
        for code in range(24):
            moved = [(x + code - 8, y - code) for x, y in corners]
            joins = ["line" if code >> at & 1 else "smooth" for at in range(4)]
            texts.append((code, moved, joins))
        text = " ".join(f"beginchar({code}, 1, 1, 1); fill {cycle_text(moved, joins)}; endchar;"
                        for code, moved, joins in texts)
        again = read_font(write_font(compile_font(text)))
        for code, moved, joins in texts:
            found = {(i, j) for i in range(-8, 40) for j in range(-16, 32) if again.pixel(code, i, j)}
            self.assertEqual(found, on_pixels([cycle_outline(moved, joins)], []))


class InnerWayTest(unittest.TestCase):
    def test_outlines_divided_along_an_inner_way(self):
        random = Random(32)
        for _ in range(15):
            count = random.randrange(4, 8)
            corners = [(random.randrange(-8, 40), random.randrange(-16, 32)) for _ in range(count)]
            inner = [(random.randrange(-8, 40), random.randrange(-16, 32)) for _ in range(random.randrange(3))]
            cut = random.randrange(2, count - 1)
            one = corners[:cut + 1] + inner
            other = corners[cut:] + corners[:1] + inner[::-1]
            whole = program(f"fill {cycle_text(corners, ['line'] * count)};")
            divided = program(*(f"fill {cycle_text(part, ['line'] * len(part))};" for part in (one, other)))
            self.assertEqual(write_font(compile_font(divided)), write_font(compile_font(whole)))

    def test_a_curved_inner_way(self):
        whole = program("fill (0, 0) -- (20, 0) -- (20, 20) -- (0, 20) -- cycle;")
        divided = program("fill (0, 0) -- (20, 0) -- (20, 20) .. controls (3, 19) and (17, 2) .. cycle;",
                          "fill (0, 0) .. controls (17, 2) and (3, 19) .. (20, 20) -- (0, 20) -- cycle;")
        self.assertEqual(len(pixels_read(divided)), 400)
        # A curve and its reverse need not be laid out alike, but the way of this one is the same in both directions.
        self.assertEqual(pixels_read(divided), pixels_read(whole))

    def test_an_unfilled_part_and_its_rest(self):
        whole = program("fill (0, 0) -- (20, 0) -- (20, 20) -- (0, 20) -- cycle;",
                        "unfill (0, 0) -- (20, 0) -- (20, 20) -- cycle;")
        self.assertEqual(pixels_read(whole), pixels_read(program("fill (0, 0) -- (20, 20) -- (0, 20) -- cycle;")))


class OrderTest(unittest.TestCase):
    EQUATIONS = ("z1 = (1, 2);", "z2 - z1 = (12, 3);", "z3 = way(1 / 2, z1, z2) + (0, 15 / 2);", "x4 + y4 = 9;",
                 "x4 - y4 = way(1 / 3, x1, x2);")
    FILL = "fill z1 -- z2 .. z3 .. tension 2 .. z4 -- cycle;"

    def test_all_orders_of_the_equations(self):
        found = {tuple(write_font(compile_font(program(*order, self.FILL)))) for order in permutations(self.EQUATIONS)}
        self.assertEqual(len(found), 1)

    def test_other_equations_with_the_same_solutions(self):
        wanted = write_font(compile_font(program(*self.EQUATIONS, self.FILL)))
        others = ("x1 = 1; 2 * y1 = x1 + 3; z2 = (13, 5); z3 - (7, 7 / 2) = (0, 15 / 2); y4 = 2; (x4, y4) = (7, 2);",
                  "z4 = (9 - y4, y4); z3 = (7, 11); x2 = 13; z2 = z1 + (12, 3); y2 = 5; z4 = whatever * (14, 4);")
        for equations in others:
            self.assertEqual(write_font(compile_font(program(equations, self.FILL))), wanted)
        self.assertEqual(write_font(compile_font(program("fill (1, 2) -- (13, 5) .. (7, 11) .. tension 2 .. (7, 2) "
                                                         "-- cycle;"))), wanted)


class SameEverywhereTest(unittest.TestCase):
    def test_the_same_text_gives_the_same_bytes(self):
        text = program("pickup (-1, -1) -- (1, -1) -- (0, 2); draw (0, 0) .. (9, 9) .. (18, 3);",
                       "fill (0, 0) -- (9, 0) .. (9, 9) .. tension 2 .. (0, 9) -- cycle;")
        self.assertEqual(write_font(compile_font(text)), write_font(compile_font(text)))


if __name__ == "__main__":
    unittest.main()
