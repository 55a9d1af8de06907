"""What can be measured of the form of the program: its files, its sizes, its imports, its interface."""

import ast
import importlib
import inspect
import pathlib
import unittest

PACKAGE = pathlib.Path(__file__).resolve().parent.parent / "oldmap"
FILES = sorted(path for path in PACKAGE.iterdir() if path.name != "__pycache__")
SIGNS = {chr(code) for code in range(32, 127)} | {"\n"}

INTERFACE = {
    "oldmap.islands": {"Island": ("rows",)},
    "oldmap.maps": {"Map": ("island", "signs", "facings", "instructions")},
    "oldmap.following": {
        "begin_states": ("chart",),
        "final_states": ("chart",),
        "places": ("chart",),
        "impossible_at": ("chart",),
        "begins_to": ("chart", "cell"),
        "ends_from": ("chart", "state"),
    },
    "oldmap.ways": {
        "way_count": ("chart",),
        "ways": ("chart",),
        "way_at": ("chart", "number"),
        "number_of": ("chart", "way"),
        "weights": ("chart",),
        "chance": ("chart", "cell"),
        "likeliest": ("chart",),
    },
    "oldmap.crossing": {"crossed": ("chart", "cell"), "crossings": ("chart",)},
    "oldmap.readings": {
        "fewest_misread": ("chart",),
        "places_misread": ("chart", "number"),
        "misread_to": ("chart", "cell"),
        "needless": ("chart",),
        "sharpness": ("chart",),
        "leanest": ("chart",),
    },
    "oldmap.walking": {
        "distance": ("island", "one", "other"),
        "route": ("island", "one", "other"),
        "least_walk": ("island", "begin", "cells"),
    },
    "oldmap.land": {
        "regions": ("island",),
        "shore_cells": ("island",),
        "needed_cells": ("island", "one", "other"),
    },
    "oldmap.digs": {
        "hint": ("rule", "cell", "place"),
        "left_after": ("island", "places", "rule", "digs"),
        "first_wrong": ("island", "places", "rule", "digs"),
        "next_dig": ("island", "places", "rule"),
        "fewest_digs": ("island", "places", "rule"),
    },
    "oldmap.waits": {
        "dig_walk": ("island", "begin", "cells"),
        "weighed_walk": ("island", "begin", "weights"),
    },
    "oldmap.torn": {
        "mended": ("chart", "gaps", "pool"),
        "torn_places": ("chart", "gaps", "pool"),
        "least_mending": ("chart", "gaps", "pool", "cell"),
        "exchanged": ("chart", "one", "other"),
        "leading_swaps": ("chart",),
        "misread_turns": ("chart",),
    },
    "oldmap.several": {
        "common_places": ("charts",),
        "joint_weights": ("charts",),
        "most_agreeing": ("charts",),
        "odd_one_out": ("charts",),
    },
    "oldmap.rounds": {
        "states_after_rounds": ("chart", "count"),
        "first_round": ("chart", "cell"),
        "round_ways": ("chart", "count"),
        "stays": ("chart",),
    },
    "oldmap.walkers": {"Walker": ("chart",)},
    "oldmap.searches": {"Search": ("chart", "rule", "here"), "Trial": ("search",)},
    "oldmap.notation": {"format_map": ("chart",), "parse_map": ("text",)},
    "oldmap.pictures": {
        "picture": ("chart",),
        "crossed_picture": ("chart",),
        "digs_picture": ("island", "places", "digs"),
    },
    "oldmap.codec": {"encode_map": ("chart",), "decode_map": ("values",)},
    "oldmap.daybooks": {"Daybook": ("text",)},
}

# What the package may take from Python's library.
LIBRARY = {"math": {"gcd"}}

# The members that must stand in the body of a class itself: methods with their parameters, and properties with None.
MEMBERS = {
    "Island": {
        "rows": None,
        "height": None,
        "width": None,
        "cells": None,
        "landmarks": None,
        "turned": ("self",),
        "__eq__": ("self", "other"),
        "__contains__": ("self", "cell"),
        "__getitem__": ("self", "cell"),
    },
    "Map": {
        "island": None,
        "signs": None,
        "facings": None,
        "instructions": None,
        "until": ("self", "number"),
        "without": ("self", "indexes"),
        "with_instructions": ("self", "instructions"),
        "turned": ("self",),
        "__eq__": ("self", "other"),
        "__len__": ("self",),
        "__getitem__": ("self", "index"),
        "__add__": ("self", "other"),
    },
    "Walker": {
        "step": ("self",),
        "seen": ("self", "cells"),
        "missed": ("self", "cells"),
        "states_now": ("self",),
        "begins_now": ("self",),
        "ends_now": ("self",),
        "done": None,
        "records": None,
    },
    "Search": {
        "dig": ("self", "told"),
        "walk": ("self", "cell"),
        "ask": ("self", "chart"),
        "mark": ("self", "name"),
        "go": ("self", "name"),
        "undo": ("self",),
        "redo": ("self",),
        "apply_all": ("self", "operations"),
        "tried": ("self", "operations", "keep"),
        "here": None,
        "paces_walked": None,
        "places_left": None,
        "marks": None,
        "history": None,
    },
    "Trial": {"hold": ("self",), "__enter__": ("self",), "__exit__": ("self", "kind", "value", "trace")},
    "Daybook": {"search": ("self",), "results": None},
}

CLASS_METHODS = {"Search": {"replay": ("chart", "rule", "here", "operations")}}


def imports(path):
    """All import statements of a file."""
    tree = ast.parse(path.read_text(encoding="utf-8"))
    return [node for node in ast.walk(tree) if isinstance(node, (ast.Import, ast.ImportFrom))]


def interface_class(name):
    """The class of the interface with a name."""
    (file,) = [file for file, names in INTERFACE.items() if name in names]
    return getattr(importlib.import_module(file), name)


class Layout(unittest.TestCase):
    def test_files(self):
        for path in FILES:
            with self.subTest(path=path.name):
                self.assertEqual(path.suffix, ".py")
                text = path.read_text(encoding="utf-8")
                self.assertLessEqual(set(text), SIGNS)
                self.assertLessEqual(len(text.splitlines()), 399)
                self.assertLessEqual(max(len(row) for row in text.splitlines()), 120)

    def test_functions(self):
        for path in FILES:
            for node in ast.walk(ast.parse(path.read_text(encoding="utf-8"))):
                if isinstance(node, ast.FunctionDef):
                    with self.subTest(path=path.name, function=node.name):
                        self.assertLessEqual(node.end_lineno - node.lineno + 1, 40)

    def test_imports(self):
        known = {
            f"oldmap.{path.stem}": [node.module for node in imports(path) if node.module not in LIBRARY]
            for path in FILES
        }
        for name, others in known.items():
            reached = []
            waiting = list(others)
            while waiting:
                other = waiting.pop()
                if other not in reached:
                    reached.append(other)
                    waiting.extend(known[other])
            with self.subTest(file=name):
                self.assertNotIn(name, reached)

    def test_imports_from_the_library(self):
        for path in FILES:
            for node in imports(path):
                with self.subTest(path=path.name, line=node.lineno):
                    self.assertIsInstance(node, ast.ImportFrom)
                    if not node.module.startswith("oldmap."):
                        self.assertLessEqual({name.name for name in node.names}, LIBRARY[node.module])

    def test_interface(self):
        for file, names in INTERFACE.items():
            module = importlib.import_module(file)
            for name, arguments in names.items():
                with self.subTest(file=file, name=name):
                    told = getattr(module, name)
                    self.assertEqual(told.__module__, file)
                    self.assertEqual(tuple(inspect.signature(told).parameters), arguments)
                    self.assertEqual(inspect.isclass(told), name in MEMBERS)

    def test_members(self):
        for name, members in MEMBERS.items():
            own = vars(interface_class(name))
            for member, arguments in members.items():
                with self.subTest(name=name, member=member):
                    if arguments is None:
                        self.assertIsInstance(own[member], property)
                    else:
                        self.assertEqual(tuple(inspect.signature(own[member]).parameters), arguments)

    def test_class_methods(self):
        for name, members in CLASS_METHODS.items():
            kind = interface_class(name)
            for member, arguments in members.items():
                with self.subTest(name=name, member=member):
                    self.assertIsInstance(vars(kind)[member], classmethod)
                    self.assertEqual(tuple(inspect.signature(getattr(kind, member)).parameters), arguments)


if __name__ == "__main__":
    unittest.main()
