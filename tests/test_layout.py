"""What can be measured of the form of the program: its files, its sizes, its imports, its interface."""

import ast
import importlib
import inspect
import pathlib
import unittest

PACKAGE = pathlib.Path(__file__).resolve().parent.parent / "oldmap"
FILES = sorted(path for path in PACKAGE.iterdir() if path.name != "__pycache__")
SIGNS = {chr(code) for code in range(32, 127)} | {"\n"}

INTERFACE = {
    "oldmap.islands": {"Island": ("rows",)},
    "oldmap.maps": {"Map": ("island", "signs", "facings", "instructions")},
    "oldmap.following": {
        "begin_states": ("chart",),
        "final_states": ("chart",),
        "places": ("chart",),
        "impossible_at": ("chart",),
        "begins_to": ("chart", "cell"),
        "ends_from": ("chart", "state"),
    },
    "oldmap.ways": {
        "way_count": ("chart",),
        "ways": ("chart",),
        "way_at": ("chart", "number"),
        "number_of": ("chart", "way"),
        "weights": ("chart",),
        "chance": ("chart", "cell"),
        "likeliest": ("chart",),
    },
    "oldmap.crossing": {"crossed": ("chart", "cell"), "crossings": ("chart",)},
    "oldmap.readings": {
        "fewest_misread": ("chart",),
        "places_misread": ("chart", "number"),
        "misread_to": ("chart", "cell"),
        "needless": ("chart",),
        "sharpness": ("chart",),
        "leanest": ("chart",),
    },
    "oldmap.walking": {
        "distance": ("island", "one", "other"),
        "route": ("island", "one", "other"),
        "least_walk": ("island", "begin", "cells"),
    },
    "oldmap.land": {
        "regions": ("island",),
        "shore_cells": ("island",),
        "needed_cells": ("island", "one", "other"),
    },
    "oldmap.digs": {
        "hint": ("rule", "cell", "place"),
        "left_after": ("island", "places", "rule", "digs"),
        "first_wrong": ("island", "places", "rule", "digs"),
        "next_dig": ("island", "places", "rule"),
        "fewest_digs": ("island", "places", "rule"),
    },
    "oldmap.waits": {
        "dig_walk": ("island", "begin", "cells"),
        "weighed_walk": ("island", "begin", "weights"),
    },
    "oldmap.torn": {
        "mended": ("chart", "gaps", "pool"),
        "torn_places": ("chart", "gaps", "pool"),
        "least_mending": ("chart", "gaps", "pool", "cell"),
        "exchanged": ("chart", "one", "other"),
        "leading_swaps": ("chart",),
        "misread_turns": ("chart",),
    },
}

# What the package may take from Python's library.
LIBRARY = {"math": {"gcd"}}

MEMBERS = {
    "Island": ("rows", "height", "width", "cells", "landmarks", "turned"),
    "Map": ("island", "signs", "facings", "instructions", "until", "without", "with_instructions", "turned"),
}


def imports(path):
    """All import statements of a file."""
    tree = ast.parse(path.read_text(encoding="utf-8"))
    return [node for node in ast.walk(tree) if isinstance(node, (ast.Import, ast.ImportFrom))]


class Layout(unittest.TestCase):
    def test_files(self):
        for path in FILES:
            with self.subTest(path=path.name):
                self.assertEqual(path.suffix, ".py")
                text = path.read_text(encoding="utf-8")
                self.assertLessEqual(set(text), SIGNS)
                self.assertLessEqual(len(text.splitlines()), 399)
                self.assertLessEqual(max(len(row) for row in text.splitlines()), 120)

    def test_functions(self):
        for path in FILES:
            for node in ast.walk(ast.parse(path.read_text(encoding="utf-8"))):
                if isinstance(node, ast.FunctionDef):
                    with self.subTest(path=path.name, function=node.name):
                        self.assertLessEqual(node.end_lineno - node.lineno + 1, 40)

    def test_imports(self):
        known = {
            f"oldmap.{path.stem}": [node.module for node in imports(path) if node.module not in LIBRARY]
            for path in FILES
        }
        for name, others in known.items():
            reached = []
            waiting = list(others)
            while waiting:
                other = waiting.pop()
                if other not in reached:
                    reached.append(other)
                    waiting.extend(known[other])
            with self.subTest(file=name):
                self.assertNotIn(name, reached)

    def test_imports_from_the_library(self):
        for path in FILES:
            for node in imports(path):
                with self.subTest(path=path.name, line=node.lineno):
                    self.assertIsInstance(node, ast.ImportFrom)
                    if not node.module.startswith("oldmap."):
                        self.assertLessEqual({name.name for name in node.names}, LIBRARY[node.module])

    def test_interface(self):
        for file, names in INTERFACE.items():
            module = importlib.import_module(file)
            for name, arguments in names.items():
                with self.subTest(file=file, name=name):
                    told = getattr(module, name)
                    self.assertEqual(told.__module__, file)
                    self.assertEqual(tuple(inspect.signature(told).parameters), arguments)
                    for member in MEMBERS.get(name, ()):
                        self.assertIn(member, vars(told))


if __name__ == "__main__":
    unittest.main()
