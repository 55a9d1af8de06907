"""Point 28: pictures of islands."""

import unittest

from helpers import CHARTS, LEADING, LETTERED, check_repeated, raised, unknown_cells
from oldmap.crossing import crossed
from oldmap.errors import NoWay, UnknownCell
from oldmap.following import places
from oldmap.islands import Island
from oldmap.maps import Map
from oldmap.pictures import crossed_picture, digs_picture, picture

ISLAND = Island(("A.~.", "..B.", "~..."))


def drawn(island, told):
    """The picture of an island with the signs that a function tells of each cell, or None."""
    return "\n".join(
        "".join(told((row, column)) or island[(row, column)] for column in range(island.width))
        for row in range(island.height)
    )


class Picture(unittest.TestCase):
    def test_by_hand(self):
        self.assertEqual(picture(Map(ISLAND, "A", (1, 2), [("walk", 0, 1)])), "**~.\n*.B.\n~...")
        self.assertEqual(picture(Map(ISLAND, "A", (1,), [])), "*.~.\n..B.\n~...")
        self.assertEqual(picture(Map(ISLAND, "B", (1,), [("walk", 0, 1)])), "A.~.\n..**\n~...")
        self.assertEqual(picture(Map(Island(("A",)), "A", (1,), [])), "*")

    def test_charts_that_end_nowhere(self):
        self.assertEqual(picture(Map(ISLAND, "A", (1,), [("walk", 2, 2)])), "A.~.\n..B.\n~...")
        self.assertEqual(picture(Map(ISLAND, "Z", (1,), [])), "A.~.\n..B.\n~...")
        self.assertEqual(picture(Map(Island(("~~", "~~")), ".", (1,), [])), "~~\n~~")

    def test_against_places(self):
        for chart in CHARTS:
            ends = places(chart)
            self.assertEqual(picture(chart), drawn(chart.island, lambda cell: "*" if cell in ends else None))

    def test_repeated_calls(self):
        for chart in CHARTS:
            check_repeated(self, picture, chart)


class CrossedPicture(unittest.TestCase):
    def test_by_hand(self):
        self.assertEqual(crossed_picture(Map(ISLAND, "A", (1, 2), [("walk", 0, 1)])), "#+~.\n+.B.\n~...")
        self.assertEqual(crossed_picture(Map(ISLAND, "A", (1, 2), [("walk", 1, 1)])), "#+~.\n+.B.\n~...")
        self.assertEqual(crossed_picture(Map(ISLAND, "A", (2,), [("walk", 1, 1), ("turn", (3,)), ("until", "B")])), (
            "#.~.\n###.\n~..."
        ))

    def test_no_way(self):
        for chart in CHARTS[5:] + (Map(ISLAND, "A", (1,), [("walk", 2, 2)]), Map(ISLAND, "Z", (1,), [])):
            raised(NoWay, crossed_picture, chart)

    def test_against_crossed(self):
        signs = {"surely": "#", "perhaps": "+", "never": None}
        for chart in LEADING:
            self.assertEqual(crossed_picture(chart), drawn(chart.island, lambda cell: signs[crossed(chart, cell)] if (
                cell in chart.island
            ) else None))

    def test_repeated_calls(self):
        for chart in LEADING:
            check_repeated(self, crossed_picture, chart)


class DigsPicture(unittest.TestCase):
    def test_by_hand(self):
        self.assertEqual(digs_picture(ISLAND, (), []), "A.~.\n..B.\n~...")
        self.assertEqual(digs_picture(ISLAND, ((0, 0), (1, 2)), []), "*.~.\n..*.\n~...")
        self.assertEqual(digs_picture(ISLAND, (), [((0, 0), "empty"), ((2, 3), "north")]), "o.~.\n..B.\n~..o")
        self.assertEqual(digs_picture(ISLAND, ((0, 0), (1, 2)), [((1, 2), "found"), ((1, 1), "far")]), (
            "*.~.\n.oo.\n~..."
        ))

    def test_what_digs_tell_is_not_looked_at(self):
        for word in ("found", "", "nothing", "empty", "level"):
            self.assertEqual(digs_picture(ISLAND, ((0, 0),), [((0, 0), word)] * 3), "o.~.\n..B.\n~...")

    def test_all_cells(self):
        cells = ISLAND.cells
        self.assertEqual(digs_picture(ISLAND, tuple(cells), []), "**~*\n****\n~***")
        self.assertEqual(digs_picture(ISLAND, tuple(cells), [(cell, "empty") for cell in cells]), "oo~o\noooo\n~ooo")
        self.assertEqual(digs_picture(ISLAND, (), [(cell, "empty") for cell in cells[::-1]]), "oo~o\noooo\n~ooo")

    def test_unknown_cells(self):
        for cell in unknown_cells(ISLAND):
            for told in ((), ((0, 0),)):
                raised(UnknownCell, digs_picture, ISLAND, told + (cell,), [])
                raised(UnknownCell, digs_picture, ISLAND, told, [(cell, "empty")])
                raised(UnknownCell, digs_picture, ISLAND, told, [((0, 0), "empty"), (cell, "empty")])
                raised(UnknownCell, digs_picture, ISLAND, (cell,) + told, [(cell, "empty")])

    def test_repeated_calls(self):
        check_repeated(self, digs_picture, LETTERED, tuple(LETTERED.cells[:5]), [((0, 0), "empty"), ((3, 2), "far")])


if __name__ == "__main__":
    unittest.main()
