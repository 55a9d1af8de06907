"""Points 13 and 14: walking with the fewest paces."""

import itertools
import unittest

from helpers import check_repeated, raised, unknown_cells
from oldmap.errors import TooMany, UnknownCell
from oldmap.islands import Island
from oldmap.walking import distance, least_walk, route

ISLAND = Island(("..A", ".~.", "B.."))
WINDING = Island((".~...~", ".~.~..", "...~~.", "~~.~..", "..~~.~"))
PARTED = Island(("..~.", "~~~.", "A~.."))
WIDE = Island(("." * 12,) * 12)
ALONE = Island((".",))
ISLANDS = (ISLAND, WINDING, PARTED, ALONE, Island(("...", "...", "...")))


def walks(island, begin, most):
    """All lists of cells of walks that come nowhere twice, with at most so many paces."""
    found = [[begin]]
    for walk in found:
        row, column = walk[-1]
        for cell in ((row - 1, column), (row, column + 1), (row + 1, column), (row, column - 1)):
            if cell in island and cell not in walk and len(walk) <= most:
                found.append(walk + [cell])
    return found


def brute_walk(island, begin, cells):
    """The fewest paces over some cells, and the least order, by all orders; None if there is no walk to some."""
    different = sorted(set(cells))
    found = []
    for order in itertools.permutations(different):
        paces = [distance(island, one, other) for one, other in zip((begin,) + order, order)]
        if None in paces:
            return None
        found.append((sum(paces), list(order)))
    return min(found)


class Distance(unittest.TestCase):
    def test_by_hand(self):
        for one, other, paces in (
            ((0, 2), (0, 2), 0),
            ((0, 2), (0, 1), 1),
            ((0, 2), (1, 2), 1),
            ((0, 1), (2, 1), 4),
            ((0, 0), (2, 2), 4),
            ((1, 0), (1, 2), 4),
        ):
            with self.subTest(one=one, other=other):
                self.assertEqual(distance(ISLAND, one, other), paces)
                self.assertEqual(distance(ISLAND, other, one), paces)

    def test_round_water(self):
        self.assertEqual(distance(WINDING, (0, 0), (0, 2)), 6)
        self.assertEqual(distance(WINDING, (0, 0), (4, 4)), 14)
        self.assertEqual(distance(Island((".~.", ".~.", "...")), (0, 0), (0, 2)), 6)

    def test_cells_that_cannot_be_reached(self):
        self.assertIsNone(distance(WINDING, (0, 0), (4, 0)))
        self.assertIsNone(distance(PARTED, (0, 0), (0, 3)))
        self.assertIsNone(distance(PARTED, (2, 0), (2, 2)))
        self.assertIsNone(distance(Island((".~", "~.")), (0, 0), (1, 1)))

    def test_all_over_the_island(self):
        self.assertEqual(distance(WIDE, (0, 0), (11, 11)), 22)
        self.assertEqual(distance(WIDE, (11, 3), (0, 7)), 15)
        self.assertEqual(distance(ALONE, (0, 0), (0, 0)), 0)


class Route(unittest.TestCase):
    def test_by_hand(self):
        self.assertEqual(route(ISLAND, (0, 2), (0, 2)), [(0, 2)])
        self.assertEqual(route(ISLAND, (0, 2), (1, 2)), [(0, 2), (1, 2)])
        self.assertEqual(route(ISLAND, (0, 1), (2, 1)), [(0, 1), (0, 0), (1, 0), (2, 0), (2, 1)])
        self.assertEqual(route(ISLAND, (2, 1), (0, 1)), [(2, 1), (2, 0), (1, 0), (0, 0), (0, 1)])
        self.assertEqual(route(Island(("..", "..")), (1, 1), (0, 0)), [(1, 1), (0, 1), (0, 0)])
        self.assertEqual(route(Island(("..", "..")), (0, 1), (1, 0)), [(0, 1), (0, 0), (1, 0)])

    def test_round_water(self):
        told = [(0, 0), (1, 0), (2, 0), (2, 1), (2, 2), (1, 2), (0, 2), (0, 3), (0, 4), (1, 4), (1, 5), (2, 5), (3, 5)]
        self.assertEqual(route(WINDING, (0, 0), (3, 5)), told)

    def test_all_over_the_island(self):
        told = [(0, column) for column in range(12)] + [(row, 11) for row in range(1, 12)]
        self.assertEqual(route(WIDE, (0, 0), (11, 11)), told)
        told = [(row, 0) for row in range(11, -1, -1)] + [(0, column) for column in range(1, 12)]
        self.assertEqual(route(WIDE, (11, 0), (0, 11)), told)

    def test_cells_that_cannot_be_reached(self):
        self.assertIsNone(route(WINDING, (0, 0), (4, 0)))
        self.assertIsNone(route(PARTED, (0, 3), (2, 0)))

    def test_against_all_walks(self):
        for island in ISLANDS:
            for one in island.cells:
                found = walks(island, one, 20)
                for other in island.cells:
                    with self.subTest(island=island.rows, one=one, other=other):
                        known = [(len(walk), walk) for walk in found if walk[-1] == other]
                        expected = min(known, default=(None, None))
                        self.assertEqual(route(island, one, other), expected[1])
                        self.assertEqual(distance(island, one, other), expected[0] and expected[0] - 1)


class LeastWalk(unittest.TestCase):
    def test_over_no_cell(self):
        self.assertEqual(least_walk(ISLAND, (0, 2), []), (0, []))

    def test_over_the_beginning(self):
        self.assertEqual(least_walk(ISLAND, (0, 2), [(0, 2)]), (0, [(0, 2)]))
        self.assertEqual(least_walk(ISLAND, (2, 2), [(2, 2), (0, 2)]), (2, [(2, 2), (0, 2)]))

    def test_over_the_beginning_in_the_least_order(self):
        self.assertEqual(least_walk(Island(("...",)), (0, 1), [(0, 0), (0, 1), (0, 2)]), (3, [(0, 0), (0, 1), (0, 2)]))

    def test_cells_told_twice(self):
        self.assertEqual(least_walk(ISLAND, (0, 0), [(2, 0), (0, 2), (2, 0), (2, 0)]), (6, [(0, 2), (2, 0)]))
        self.assertEqual(least_walk(WIDE, (0, 0), [(0, 5)] * 30), (5, [(0, 5)]))

    def test_the_least_of_several_orders(self):
        self.assertEqual(least_walk(Island(("...", "...", "...")), (1, 1), [(2, 1), (1, 0), (0, 1)]),
                         (5, [(0, 1), (1, 0), (2, 1)]))
        self.assertEqual(least_walk(Island((".....",)), (0, 2), [(0, 4), (0, 0)]), (6, [(0, 0), (0, 4)]))
        self.assertEqual(least_walk(Island((".....",)), (0, 3), [(0, 4), (0, 0)]), (5, [(0, 4), (0, 0)]))

    def test_cells_walked_over_on_the_way_to_others(self):
        self.assertEqual(least_walk(Island(("." * 12,)), (0, 4), [(0, 0), (0, 3), (0, 11), (0, 5)]),
                         (15, [(0, 0), (0, 3), (0, 5), (0, 11)]))

    def test_not_always_the_nearest_cell_first(self):
        self.assertEqual(least_walk(Island(("." * 12,)), (0, 4), [(0, 0), (0, 11), (0, 6)]),
                         (15, [(0, 0), (0, 6), (0, 11)]))

    def test_seven_different_cells_and_eight(self):
        cells = [(0, column) for column in range(0, 12, 2)] + [(11, 11)]
        self.assertEqual(least_walk(WIDE, (0, 0), cells), (22, cells))
        self.assertEqual(least_walk(WIDE, (0, 0), cells + cells), (22, cells))
        self.assertEqual(least_walk(WIDE, (11, 0), cells), (33, cells))
        raised(TooMany, least_walk, WIDE, (0, 0), cells + [(5, 5)])
        raised(TooMany, least_walk, WIDE, (5, 5), WIDE.cells)

    def test_cells_that_cannot_be_reached(self):
        self.assertIsNone(least_walk(PARTED, (0, 0), [(0, 3)]))
        self.assertIsNone(least_walk(PARTED, (0, 0), [(0, 1), (2, 0), (0, 1)]))
        self.assertEqual(least_walk(PARTED, (0, 0), [(0, 1)]), (1, [(0, 1)]))

    def test_errors_ahead_of_cells_that_cannot_be_reached(self):
        reached = [cell for cell in WINDING.cells if cell not in ((4, 0), (4, 1), (0, 0))]
        for cells in ([(4, 0), (-1, 0)], [(0, 1), (4, 0)], reached[:6] + [(4, 0), (9, 9)], reached + [(0, 1)]):
            raised(UnknownCell, least_walk, WINDING, (0, 0), cells)
        for cells in (reached[:7] + [(4, 0)], [(4, 0), (4, 1)] + reached[:6], reached + [(4, 1)]):
            raised(TooMany, least_walk, WINDING, (0, 0), cells)
        self.assertIsNone(least_walk(WINDING, (0, 0), reached[:6] + [(4, 0)]))

    def test_against_all_orders(self):
        for island in ISLANDS:
            cells = island.cells
            for begin in cells[::3]:
                for chosen in (cells[:3], cells[::4], cells[-4:] + cells[:1], cells[1::3][:5], [begin] + cells[-2:]):
                    with self.subTest(island=island.rows, begin=begin, cells=chosen):
                        self.assertEqual(least_walk(island, begin, chosen), brute_walk(island, begin, chosen))


class UnknownCells(unittest.TestCase):
    def test_first_and_second_cell(self):
        for island in (ISLAND, WINDING, PARTED):
            good = island.cells[0]
            for cell in unknown_cells(island):
                for call in (distance, route):
                    with self.subTest(island=island.rows, cell=cell, call=call.__name__):
                        raised(UnknownCell, call, island, cell, good)
                        raised(UnknownCell, call, island, good, cell)
                        raised(UnknownCell, call, island, cell, cell)

    def test_least_walk(self):
        for island in (ISLAND, WINDING, PARTED):
            good = island.cells[0]
            for cell in unknown_cells(island):
                with self.subTest(island=island.rows, cell=cell):
                    raised(UnknownCell, least_walk, island, cell, [])
                    raised(UnknownCell, least_walk, island, cell, [good])
                    raised(UnknownCell, least_walk, island, good, [cell])
                    raised(UnknownCell, least_walk, island, good, [good, good, cell])
                    raised(UnknownCell, least_walk, island, cell, island.cells)


class RepeatedCalls(unittest.TestCase):
    def test_repeated_calls(self):
        for island in ISLANDS:
            first, last = island.cells[0], island.cells[-1]
            check_repeated(self, distance, island, first, last)
            check_repeated(self, route, island, first, last)
            check_repeated(self, least_walk, island, last, [last, first, first])


if __name__ == "__main__":
    unittest.main()
