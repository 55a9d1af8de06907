"""The examples of the interface, as they stand there."""

import pathlib
import unittest

EXAMPLES = pathlib.Path(__file__).with_name("examples.txt")


def outcome(rows):
    """What the last row gives, written as in the examples, when the others have been executed."""
    known = {}
    for row in rows[:-1]:
        exec(row, known)
    try:
        return repr(eval(rows[-1], known))
    except Exception as error:
        told = ", ".join(f"{name}={value!r}" for name, value in vars(error).items())
        return f"raises {error.__class__.__name__}({told})"


class Examples(unittest.TestCase):
    def test_each_example(self):
        blocks = EXAMPLES.read_text(encoding="utf-8").strip().split("\n\n")
        self.assertEqual(len(blocks), 36)
        for block in blocks:
            *rows, expected = block.split("\n")
            with self.subTest(block=block):
                self.assertTrue(all(row.startswith(">>> ") for row in rows))
                self.assertEqual(outcome([row[4:] for row in rows]), expected)


if __name__ == "__main__":
    unittest.main()
