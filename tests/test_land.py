"""Points 15 and 16: regions, the shore, and the cells that every walk leads over."""

import unittest

from helpers import check_repeated, raised, unknown_cells
from oldmap.errors import UnknownCell
from oldmap.islands import Island
from oldmap.land import needed_cells, regions, shore_cells
from oldmap.walking import distance

ISLAND = Island(("..A", ".~.", "B.."))
PARTED = Island(("..~.", "~.~.", "~~..", "A~~B"))
WINDING = Island((".~...~", ".~.~..", "...~~.", "~~.~..", "..~~.~"))
WITHOUT_LAND = Island(("~~", "~~"))
ALONE = Island(("Q",))
WIDE = Island(("." * 12,) * 12)
ISLANDS = (ISLAND, PARTED, WINDING, ALONE, Island(("....", ".~~.", "....", "~.~~", "...~")), Island(("...",) * 3))


def without_cell(island, cell):
    """The island with water in place of a cell."""
    signs = [list(row) for row in island.rows]
    signs[cell[0]][cell[1]] = "~"
    return Island(tuple("".join(row) for row in signs))


class Regions(unittest.TestCase):
    def test_one_region(self):
        for island in (ISLAND, ALONE, WIDE, Island(("A~", ".B"))):
            with self.subTest(rows=island.rows):
                self.assertEqual(regions(island), [island.cells])

    def test_several_regions(self):
        told = [[(0, 0), (0, 1), (1, 1)], [(0, 3), (1, 3), (2, 2), (2, 3), (3, 3)], [(3, 0)]]
        self.assertEqual(regions(PARTED), told)
        self.assertEqual(regions(Island((".~.", "~.~", ".~."))), [[(0, 0)], [(0, 2)], [(1, 1)], [(2, 0)], [(2, 2)]])
        self.assertEqual(len(regions(Island((".~" * 6, "~." * 6) * 6))), 72)

    def test_cells_of_a_region_ascend(self):
        self.assertEqual(regions(Island(("~~.", "..."))), [[(0, 2), (1, 0), (1, 1), (1, 2)]])
        self.assertEqual(regions(Island((".~.", ".~.", "..."))), [
            [(0, 0), (0, 2), (1, 0), (1, 2), (2, 0), (2, 1), (2, 2)]
        ])

    def test_without_land(self):
        self.assertEqual(regions(WITHOUT_LAND), [])

    def test_against_distances(self):
        for island in ISLANDS:
            with self.subTest(rows=island.rows):
                found = [[other for other in island.cells if distance(island, cell, other) is not None]
                         for cell in island.cells]
                self.assertEqual(regions(island), [list(cells) for cells in sorted(set(map(tuple, found)))])


class ShoreCells(unittest.TestCase):
    def test_at_the_edge(self):
        self.assertEqual(shore_cells(Island(("...", ".A.", "..."))),
                         [(0, 0), (0, 1), (0, 2), (1, 0), (1, 2), (2, 0), (2, 1), (2, 2)])
        self.assertEqual(shore_cells(ALONE), [(0, 0)])
        self.assertEqual(len(shore_cells(WIDE)), 44)

    def test_beside_water_within(self):
        island = Island((".....", ".....", "..~..", ".....", "....."))
        edge = [cell for cell in island.cells if 0 in cell or 4 in cell]
        self.assertEqual(shore_cells(island), sorted(edge + [(1, 2), (2, 1), (2, 3), (3, 2)]))

    def test_cells_that_have_land_on_all_four_sides(self):
        self.assertEqual(shore_cells(Island(("~.~", "...", "~.~"))), [(0, 1), (1, 0), (1, 2), (2, 1)])
        self.assertEqual(shore_cells(ISLAND), ISLAND.cells)

    def test_without_land(self):
        self.assertEqual(shore_cells(WITHOUT_LAND), [])


class NeededCells(unittest.TestCase):
    def test_none_of_them(self):
        self.assertEqual(needed_cells(ISLAND, (0, 0), (2, 2)), [])
        self.assertEqual(needed_cells(ISLAND, (0, 0), (0, 1)), [])
        self.assertEqual(needed_cells(WIDE, (0, 0), (11, 11)), [])

    def test_all_of_them(self):
        self.assertEqual(needed_cells(Island((".....",)), (0, 0), (0, 4)), [(0, 1), (0, 2), (0, 3)])
        self.assertEqual(needed_cells(Island((".....",)), (0, 3), (0, 1)), [(0, 2)])
        island = Island((".~.", ".~.", "..."))
        self.assertEqual(needed_cells(island, (0, 0), (0, 2)), [(1, 0), (1, 2), (2, 0), (2, 1), (2, 2)])

    def test_some_of_them(self):
        island = Island(("....", ".~~.", "....", "~.~~", "...~"))
        self.assertEqual(needed_cells(island, (0, 0), (4, 0)), [(2, 1), (3, 1), (4, 1)])
        self.assertEqual(needed_cells(island, (4, 2), (0, 3)), [(2, 1), (3, 1), (4, 1)])

    def test_the_same_cell_twice(self):
        for cell in WINDING.cells:
            self.assertEqual(needed_cells(WINDING, cell, cell), [])

    def test_cells_with_no_walk_between_them(self):
        self.assertIsNone(needed_cells(PARTED, (0, 0), (0, 3)))
        self.assertIsNone(needed_cells(PARTED, (3, 0), (3, 3)))
        self.assertIsNone(needed_cells(Island((".~", "~.")), (0, 0), (1, 1)))

    def test_against_islands_without_each_cell(self):
        for island in ISLANDS:
            for one in island.cells:
                for other in island.cells:
                    with self.subTest(rows=island.rows, one=one, other=other):
                        expected = None
                        if distance(island, one, other) is not None:
                            expected = [cell for cell in island.cells if cell not in (one, other)
                                        and distance(without_cell(island, cell), one, other) is None]
                        self.assertEqual(needed_cells(island, one, other), expected)

    def test_unknown_cells(self):
        for island in (ISLAND, PARTED, WINDING):
            good = island.cells[0]
            for cell in unknown_cells(island):
                with self.subTest(rows=island.rows, cell=cell):
                    raised(UnknownCell, needed_cells, island, cell, good)
                    raised(UnknownCell, needed_cells, island, good, cell)
                    raised(UnknownCell, needed_cells, island, cell, cell)


class RepeatedCalls(unittest.TestCase):
    def test_repeated_calls(self):
        for island in ISLANDS:
            check_repeated(self, regions, island)
            check_repeated(self, shore_cells, island)
            check_repeated(self, needed_cells, island, island.cells[0], island.cells[-1])


if __name__ == "__main__":
    unittest.main()
