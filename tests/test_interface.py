"""The interface: names, files, arguments and kinds of values; and the examples of README.md."""

import doctest
import importlib
import inspect
import unittest
from pathlib import Path

README = Path(__file__).resolve().parent.parent / "README.md"

# Arguments behind a * are passed by keyword.
FUNCTIONS = {
    "ratios": {
        "ratio": "n, d", "add": "a, b", "subtract": "a, b", "multiply": "a, b", "divide": "a, b",
        "compare": "a, b", "floor_of": "a", "nearest": "a", "sixty_fourths": "a"},
    "forms": {
        "known_form": "number", "unknown_form": "unknown", "add_forms": "a, b", "subtract_forms": "a, b",
        "scale_form": "form, number", "replace_unknown": "form, unknown, other", "coefficient": "form, unknown"},
    "transforms": {
        "apply": "transform, point", "compose": "first, second", "inverse": "transform", "shift_by": "point",
        "scale_by": "x, y", "slant_by": "s", "turn_by": "quarters"},
    "paths": {
        "polygon": "points, *, cycle", "length": "path", "reverse": "path", "transform_path": "path, transform"},
    "cuts": {
        "between": "p, q, fraction", "cut_segment": "a, segment, b, fraction", "point_at": "path, time",
        "subpath": "path, start, end"},
    "joins": {"join_points": "points, joins, *, cycle=False"},
    "outlines": {"grid_point": "point", "outline": "path", "lay_out": "a, b, c, d, depth"},
    "winding": {
        "crossing": "a, b, x, y", "winding_number": "outline, x, y", "double_area": "outline", "lines": "outline"},
    "filling": {"fill_rows": "outline", "blank_rows": ""},
    "hulls": {"corners": "points"},
    "pens": {"sweep": "pen, p, q", "cover_rows": "pen, outline", "extent": "pen"},
    "lexer": {"tokens": "text"},
    "statements": {"parse": "text"},
    "formatter": {"format_program": "tree"},
    "metrics": {
        "groups": "values, tolerance", "least_tolerance": "values, limit", "table": "values, limit",
        "table_value": "values, limit, value"},
    "ligatures": {
        "rule": "steps, labels, left, right", "pair_end": "steps, labels, left, right",
        "endless_pairs": "steps, labels"},
    "settings": {"set_line": "steps, labels, codes"},
    "nybbles": {"write_length": "n, way", "read_length": "nybbles, index, way"},
    "packing": {
        "pack": "rows, way", "best_way": "rows", "unpack": "nybbles, way, columns, count, first_pixel"},
    "files": {"write_font": "font", "read_font": "data"},
    "compiler": {"compile_font": "text, *, resolution=1"},
}
METHODS = {
    "equations": {"Equations": {
        "__init__": "self", "new_unknown": "self", "kind": "self, unknown", "form": "self, unknown",
        "reduce": "self, form", "equate": "self, left, right"}},
    "pictures": {"Picture": {
        "__init__": "self", "weight": "self, i, j", "rows": "self", "add_rows": "self, rows, *, factor=1",
        "wipe": "self", "total": "self", "on_pixels": "self", "shifted": "self, di, dj",
        "__add__": "self, other", "__sub__": "self, other", "__neg__": "self"}},
    "machine": {"Machine": {
        "__init__": "self, *, resolution=1", "run": "self, tree", "value": "self, name, subscript=None",
        "shown": "self", "pen": "self", "characters_made": "self", "steps_made": "self", "labels_made": "self"}},
    "fonts": {"Font": {
        "__init__": "self, characters, steps, labels", "__len__": "self", "__contains__": "self, code",
        "__iter__": "self", "character": "self, code", "pixel": "self, code, i, j", "table": "self, metric",
        "table_value": "self, code, metric", "line": "self, codes", "width": "self, codes",
        "positions": "self, codes"}},
}
VALUES = {
    "ratios": {"LIMIT": 10 ** 18},
    "transforms": {"IDENTITY": ((0, 1), (0, 1), (1, 1), (0, 1), (0, 1), (1, 1))},
    "filling": {"LEFT": -8, "BOTTOM": -16, "SIZE": 48},
    "metrics": {"LIMITS": (8, 4, 3, 2)},
    "ligatures": {"EDGE": 128},
}


def arguments(function):
    return str(inspect.signature(function))[1:-1]


class InterfaceTest(unittest.TestCase):
    def test_functions(self):
        for name, functions in FUNCTIONS.items():
            module = importlib.import_module("fontwinding." + name)
            for function, wanted in functions.items():
                told = getattr(module, function)
                self.assertTrue(inspect.isfunction(told), function)
                self.assertEqual(told.__module__, module.__name__, function)
                self.assertEqual(arguments(told), wanted, function)

    def test_methods(self):
        for name, classes in METHODS.items():
            module = importlib.import_module("fontwinding." + name)
            for class_name, methods in classes.items():
                told = getattr(module, class_name)
                self.assertEqual(told.__module__, module.__name__, class_name)
                for method, wanted in methods.items():
                    self.assertEqual(arguments(vars(told)[method]), wanted, method)

    def test_properties(self):
        from fontwinding.equations import Equations
        from fontwinding.machine import Machine
        self.assertIsInstance(vars(Equations)["unknowns"], property)
        self.assertIsInstance(vars(Machine)["is_open"], property)

    def test_values(self):
        for name, values in VALUES.items():
            module = importlib.import_module("fontwinding." + name)
            for word, wanted in values.items():
                self.assertEqual(getattr(module, word), wanted, word)

    def test_attributes_of_new_objects(self):
        from fontwinding.fonts import Font
        from fontwinding.machine import Machine
        self.assertLessEqual({"equations", "picture"}, set(vars(Machine())))
        self.assertLessEqual({"characters", "steps", "labels"}, set(vars(Font((), (), ()))))

    def test_arguments_may_be_named(self):
        from fontwinding.cuts import cut_segment, point_at, subpath
        from fontwinding.joins import join_points
        from fontwinding.paths import polygon
        a, b = ((0, 1), (0, 1)), ((2, 1), (0, 1))
        path = polygon(points=[a, b], cycle=False)
        self.assertEqual(join_points(points=[a, b], joins=["line"], cycle=False), path)
        self.assertEqual(subpath(path=path, start=(0, 1), end=(1, 1)), path)
        self.assertEqual(point_at(path=path, time=(1, 2)), ((1, 1), (0, 1)))
        self.assertEqual(cut_segment(a=a, segment=None, b=b, fraction=(1, 2)), (None, ((1, 1), (0, 1)), None))
        from fontwinding.outlines import lay_out
        from fontwinding.winding import winding_number
        self.assertEqual(lay_out(a=(0, 0), b=(1, 1), c=(2, 2), d=(3, 3), depth=0), [(3, 3)])
        self.assertEqual(winding_number(outline=[(0, 0)], x=0, y=0), 0)
        from fontwinding.formatter import format_program
        from fontwinding.statements import parse
        self.assertEqual(format_program(tree=parse(text="endchar;")), "endchar;\n")
        from fontwinding.compiler import compile_font
        from fontwinding.files import read_font, write_font
        from fontwinding.packing import pack, unpack
        font = read_font(data=write_font(font=compile_font(text="ligtable 1: 2 kern 3;", resolution=2)))
        self.assertEqual(font.width(codes=[1, 2]), 192)
        self.assertEqual(unpack(nybbles=pack(rows=((1,),), way=5), way=5, columns=1, count=1, first_pixel=1), ((1,),))


class ReadmeTest(unittest.TestCase):
    def test_examples(self):
        rows = README.read_text(encoding="utf-8").split("\n")
        text = "\n".join("" if row.startswith("```") else row for row in rows)
        test = doctest.DocTestParser().get_doctest(text, {}, "README.md", str(README), 0)
        self.assertGreater(len(test.examples), 10)
        told = []
        result = doctest.DocTestRunner(verbose=False).run(test, out=told.append)
        self.assertEqual(result.failed, 0, "".join(told))


if __name__ == "__main__":
    unittest.main()
