"""Point 19: walks on which the paces up to each cell count."""

import itertools
import unittest

from helpers import check_repeated, raised, unknown_cells
from oldmap.errors import InvalidNumber, TooMany, UnknownCell
from oldmap.islands import Island
from oldmap.waits import dig_walk, weighed_walk
from oldmap.walking import distance

ISLAND = Island(("..A", ".~.", "B.."))
ROW = Island(("." * 12,))
WIDE = Island(("." * 12,) * 12)
PARTED = Island(("..~.", "~~~.", "A~.."))
WINDING = Island((".~...~", ".~.~..", "...~~.", "~~.~..", "..~~.~"))
MOST = 10 ** 9
WRONG_WEIGHTS = (0, -1, 10 ** 9 + 1, 10 ** 30, True, False)


def brute(island, begin, weights):
    """The least sum and order, by all orders in which the beginning, if it is among the cells, comes first."""
    found = []
    for order in itertools.permutations(sorted(weights)):
        if begin in weights and order[0] != begin:
            continue
        total, walked = 0, 0
        for one, other in zip((begin,) + order, order):
            paces = distance(island, one, other)
            if paces is None:
                return None
            walked += paces
            total += walked * weights[other]
        found.append((total, list(order)))
    return min(found)


class DigWalk(unittest.TestCase):
    def test_no_cell_and_one(self):
        self.assertEqual(dig_walk(ISLAND, (0, 1), ()), (0, []))
        self.assertEqual(dig_walk(ISLAND, (0, 1), ((2, 1),)), (4, [(2, 1)]))
        self.assertEqual(dig_walk(ISLAND, (0, 1), ((0, 1),)), (0, [(0, 1)]))

    def test_several_cells(self):
        self.assertEqual(dig_walk(ROW, (0, 4), ((0, 3), (0, 6))), (5, [(0, 3), (0, 6)]))
        self.assertEqual(dig_walk(ROW, (0, 5), ((0, 0), (0, 6), (0, 7))), (12, [(0, 6), (0, 7), (0, 0)]))
        self.assertEqual(dig_walk(ISLAND, (0, 0), ((0, 2), (1, 2), (2, 0))), (11, [(0, 2), (1, 2), (2, 0)]))
        self.assertEqual(dig_walk(ISLAND, (2, 1), ((0, 2), (1, 2), (2, 0))), (10, [(2, 0), (1, 2), (0, 2)]))

    def test_the_beginning_comes_first(self):
        self.assertEqual(dig_walk(ROW, (0, 1), ((0, 0), (0, 1), (0, 2))), (4, [(0, 1), (0, 0), (0, 2)]))
        self.assertEqual(dig_walk(ROW, (0, 2), ((0, 2), (0, 5))), (3, [(0, 2), (0, 5)]))
        self.assertEqual(dig_walk(WIDE, (3, 3), ((2, 3), (3, 3), (3, 4), (4, 3)))[1][0], (3, 3))

    def test_several_orders_with_an_equal_sum(self):
        self.assertEqual(dig_walk(ROW, (0, 4), ((0, 2), (0, 6))), (8, [(0, 2), (0, 6)]))
        self.assertEqual(dig_walk(ISLAND, (0, 0), ((0, 2), (2, 0))), (8, [(0, 2), (2, 0)]))
        self.assertEqual(dig_walk(WIDE, (5, 5), ((4, 5), (5, 4), (5, 6), (6, 5))),
                         (16, [(4, 5), (5, 4), (5, 6), (6, 5)]))

    def test_seven_cells_and_eight(self):
        seven = tuple((0, column) for column in range(5, 12))
        self.assertEqual(dig_walk(ROW, (0, 4), seven), (28, list(seven)))
        self.assertEqual(dig_walk(ROW, (0, 5), seven), (21, list(seven)))
        self.assertEqual(dig_walk(ROW, (0, 11), seven), (21, list(seven[::-1])))
        eight = ((0, 4),) + seven
        raised(TooMany, dig_walk, ROW, (0, 4), eight)
        raised(TooMany, dig_walk, ROW, (0, 0), eight)
        raised(TooMany, dig_walk, WIDE, (0, 0), tuple(WIDE.cells))

    def test_cells_that_cannot_be_reached(self):
        self.assertIsNone(dig_walk(PARTED, (0, 0), ((0, 3),)))
        self.assertIsNone(dig_walk(PARTED, (0, 0), ((0, 0), (0, 1), (2, 0))))
        self.assertIsNone(dig_walk(PARTED, (0, 3), ((0, 1), (1, 3))))

    def test_against_all_orders(self):
        for island in (ISLAND, PARTED, WINDING):
            cells = island.cells
            for begin in cells[::2]:
                for chosen in (cells[:3], cells[::4], cells[-4:], cells[1::3][:5], sorted(set(cells[-2:] + [begin]))):
                    with self.subTest(rows=island.rows, begin=begin, cells=chosen):
                        weights = {cell: 1 for cell in chosen}
                        self.assertEqual(dig_walk(island, begin, tuple(chosen)), brute(island, begin, weights))


class WeighedWalk(unittest.TestCase):
    def test_no_cell_and_one(self):
        self.assertEqual(weighed_walk(ISLAND, (0, 1), {}), (0, []))
        self.assertEqual(weighed_walk(ISLAND, (0, 1), {(2, 1): 7}), (28, [(2, 1)]))
        self.assertEqual(weighed_walk(ISLAND, (0, 1), {(0, 1): 7}), (0, [(0, 1)]))

    def test_weights_change_the_order(self):
        self.assertEqual(weighed_walk(ROW, (0, 4), {(0, 3): 1, (0, 6): 1}), (5, [(0, 3), (0, 6)]))
        self.assertEqual(weighed_walk(ROW, (0, 4), {(0, 3): 1, (0, 6): 3}), (11, [(0, 6), (0, 3)]))
        self.assertEqual(weighed_walk(ROW, (0, 4), {(0, 3): 1, (0, 6): 2}), (9, [(0, 3), (0, 6)]))

    def test_several_orders_with_an_equal_sum(self):
        self.assertEqual(weighed_walk(ROW, (0, 4), {(0, 6): 2, (0, 2): 2}), (16, [(0, 2), (0, 6)]))
        self.assertEqual(weighed_walk(ROW, (0, 3), {(0, 5): 2, (0, 2): 1}), (9, [(0, 2), (0, 5)]))

    def test_the_beginning_comes_first(self):
        self.assertEqual(weighed_walk(ROW, (0, 1), {(0, 2): 1, (0, 1): 5, (0, 0): 1}), (4, [(0, 1), (0, 0), (0, 2)]))
        self.assertEqual(weighed_walk(ROW, (0, 1), {(0, 0): MOST, (0, 1): 1}), (MOST, [(0, 1), (0, 0)]))

    def test_least_and_greatest_weights(self):
        self.assertEqual(weighed_walk(ROW, (0, 4), {(0, 3): 1, (0, 11): MOST}), (7 * MOST + 15, [(0, 11), (0, 3)]))
        self.assertEqual(weighed_walk(ROW, (0, 0), {(0, 11): MOST}), (11 * MOST, [(0, 11)]))
        self.assertEqual(weighed_walk(ROW, (0, 0), {(0, 1): MOST, (0, 2): MOST}), (3 * MOST, [(0, 1), (0, 2)]))

    def test_weights_out_of_range(self):
        for weight in WRONG_WEIGHTS:
            with self.subTest(weight=weight):
                raised(InvalidNumber, weighed_walk, ROW, (0, 4), {(0, 3): weight})
                raised(InvalidNumber, weighed_walk, ROW, (0, 4), {(0, 5): 1, (0, 6): MOST, (0, 3): weight})
                raised(InvalidNumber, weighed_walk, ROW, (0, 4), {(0, 4): weight})

    def test_cells_that_cannot_be_reached(self):
        self.assertIsNone(weighed_walk(PARTED, (0, 0), {(0, 1): 3, (2, 3): 1}))
        self.assertIsNone(weighed_walk(PARTED, (2, 0), {(2, 0): 3, (0, 0): 1}))

    def test_against_all_orders(self):
        for island in (ISLAND, PARTED, WINDING):
            cells = island.cells
            for begin in cells[::2]:
                for chosen in (cells[:3], cells[::4], cells[-4:], cells[1::3][:5], sorted(set(cells[-2:] + [begin]))):
                    for factor in (1, 3, 7):
                        with self.subTest(rows=island.rows, begin=begin, cells=chosen, factor=factor):
                            weights = {cell: 1 + cell[0] * factor + cell[1] * 5 % 7 for cell in chosen[::-1]}
                            self.assertEqual(weighed_walk(island, begin, weights), brute(island, begin, weights))


class Errors(unittest.TestCase):
    def test_unknown_cells(self):
        for island in (ISLAND, PARTED):
            good = island.cells[0]
            for cell in unknown_cells(island):
                with self.subTest(rows=island.rows, cell=cell):
                    raised(UnknownCell, dig_walk, island, cell, ())
                    raised(UnknownCell, dig_walk, island, good, (cell,))
                    raised(UnknownCell, dig_walk, island, cell, (good,))
                    raised(UnknownCell, weighed_walk, island, cell, {})
                    raised(UnknownCell, weighed_walk, island, good, {cell: 1})
                    raised(UnknownCell, weighed_walk, island, good, {island.cells[-1]: 1, cell: 2})

    def test_errors_together_in_their_order(self):
        row = {(0, column): 1 for column in range(9)}
        wrong_weight = dict(row)
        wrong_weight[(0, 3)] = 0
        wrong_cell = dict(wrong_weight)
        wrong_cell[(5, 5)] = 1
        raised(UnknownCell, weighed_walk, ROW, (1, 0), {(0, 3): 0})
        raised(UnknownCell, weighed_walk, ROW, (1, 0), wrong_weight)
        raised(UnknownCell, weighed_walk, ROW, (1, 0), row)
        raised(UnknownCell, weighed_walk, ROW, (0, 0), {(0, 3): 0, (1, 0): 1})
        raised(UnknownCell, weighed_walk, ROW, (0, 0), {(1, 0): 0})
        raised(UnknownCell, weighed_walk, ROW, (0, 0), wrong_cell)
        raised(InvalidNumber, weighed_walk, ROW, (0, 0), wrong_weight)
        raised(TooMany, weighed_walk, ROW, (0, 0), row)
        raised(UnknownCell, dig_walk, ROW, (1, 0), tuple(row))
        raised(UnknownCell, dig_walk, ROW, (0, 0), tuple(row) + ((1, 0),))
        raised(TooMany, dig_walk, ROW, (0, 0), tuple(row))

    def test_errors_ahead_of_cells_that_cannot_be_reached(self):
        raised(InvalidNumber, weighed_walk, PARTED, (0, 0), {(0, 3): 1, (0, 1): 0})
        parted = Island(("....", "~~~~", "...."))
        raised(TooMany, dig_walk, parted, (0, 0), tuple(parted.cells))
        self.assertIsNone(dig_walk(parted, (0, 0), tuple(parted.cells[:7])))


class RepeatedCalls(unittest.TestCase):
    def test_repeated_calls(self):
        for island in (ISLAND, PARTED, WINDING):
            cells = island.cells
            check_repeated(self, dig_walk, island, cells[-1], tuple(cells[::3][:5]))
            check_repeated(self, weighed_walk, island, cells[0], {cell: 3 for cell in cells[:4]})
            check_repeated(self, weighed_walk, island, cells[0], {})


if __name__ == "__main__":
    unittest.main()
