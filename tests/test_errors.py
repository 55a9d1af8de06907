"""The classes of oldmap.errors."""

import unittest

from oldmap import errors

ATTRIBUTES = {
    "InvalidIsland": ("row", "column"),
    "InvalidMap": ("index",),
    "InvalidNumber": (),
    "UnknownCell": (),
    "NoBeginning": (),
    "NoWay": (),
    "TooMany": (),
    "InvalidRule": (),
    "InvalidDig": ("index",),
    "InvalidGaps": ("index",),
    "InvalidPool": ("index",),
    "UnknownIndex": (),
    "InvalidMaps": ("index",),
    "NoInstruction": (),
    "NoPlace": (),
    "InvalidName": (),
    "UnknownMark": (),
    "InvalidOperation": ("index",),
    "InvalidText": ("row", "word"),
    "DecodeError": ("offset",),
    "DaybookError": ("row", "word"),
}


class Errors(unittest.TestCase):
    def test_base_class(self):
        self.assertEqual(errors.MapError.__bases__, (ValueError,))

    def test_direct_subclasses(self):
        for name in ATTRIBUTES:
            with self.subTest(name=name):
                kind = getattr(errors, name)
                self.assertEqual(kind.__bases__, (errors.MapError,))
                self.assertEqual(kind.__module__, "oldmap.errors")

    def test_there_are_no_others(self):
        found = {name for name, value in vars(errors).items() if isinstance(value, type)}
        self.assertEqual(found, set(ATTRIBUTES) | {"MapError"})

    def test_attributes(self):
        for name, attributes in ATTRIBUTES.items():
            with self.subTest(name=name):
                numbers = list(range(5, 5 + len(attributes)))
                error = getattr(errors, name)(*numbers)
                self.assertEqual(vars(error), dict(zip(attributes, numbers)))


if __name__ == "__main__":
    unittest.main()
