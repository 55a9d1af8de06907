"""Point 10: over which cells ways lead surely, perhaps and never."""

import unittest

from helpers import ALL_FACINGS, CHARTS, LEADING, LETTERED, check_repeated, every_way, raised, unknown_cells
from oldmap.crossing import crossed, crossings
from oldmap.errors import NoWay, UnknownCell
from oldmap.islands import Island
from oldmap.maps import Map
from oldmap.ways import ways

ISLAND = Island(("..A", ".~.", "B.."))
NOWHERE = Map(ISLAND, "A", (2, 3), [("walk", 0, 2), ("until", "C")])
WITHOUT_BEGINNING = Map(ISLAND, "C", ALL_FACINGS, [("walk", 0, 2)])
WIDE = Island(("A" + "." * 11,) + ("." * 12,) * 11)


def walked_over(island, instruction, state, behind):
    """The cells walked over from one state to the next, by single paces, one instruction for each number of them."""
    if instruction[0] not in ("walk", "until", "shore"):
        return {state[:2]}
    if instruction[0] == "shore":
        word, least = instruction[:2], instruction[2]
    else:
        word, least = ("walk",), 0 if instruction[0] == "walk" else 1
    chart = Map(island, island[state[:2]], state[2:], [])
    cells = {state[:2]}
    for number in range(21):
        found = [way[-1] for way in ways(chart + [word + (number, number)])]
        cells.update(other[:2] for other in found)
        if number >= least and found == [behind]:
            return cells
    raise AssertionError("never there")


def brute(chart):
    """The word for each cell over which some way leads, by all ways one by one."""
    known = {}
    crossed_by_each = []
    for way in every_way(chart):
        cells = {way[0][:2]}
        for instruction, state, behind in zip(chart.instructions, way, way[1:]):
            step = (instruction, state, behind)
            if step not in known:
                known[step] = walked_over(chart.island, *step)
            cells |= known[step]
        crossed_by_each.append(cells)
    everywhere = set.intersection(*crossed_by_each)
    return {
        cell: "surely" if cell in everywhere else "perhaps" for cell in sorted(set.union(*crossed_by_each))
    }


class Crossing(unittest.TestCase):
    def holds(self, chart, surely, perhaps):
        told = {cell: "surely" if cell in surely else "perhaps" for cell in sorted(surely + perhaps)}
        self.assertEqual(list(crossings(chart).items()), list(told.items()))
        for cell in chart.island.cells:
            self.assertEqual(crossed(chart, cell), told.get(cell, "never"))

    def test_walking_over(self):
        chart = Map(Island(("A...", "....")), "A", (1,), [("walk", 3, 3)])
        self.holds(chart, [(0, 0), (0, 1), (0, 2), (0, 3)], [])
        chart = Map(Island(("A....",)), "A", (1,), [("walk", 2, 3), ("turn", (2,)), ("walk", 1, 1)])
        self.holds(chart, [(0, 0), (0, 1), (0, 2)], [(0, 3)])

    def test_walking_from_the_least_number_on(self):
        self.holds(Map(Island(("A.....",)), "A", (1,), [("walk", 2, 4)]), [(0, 0), (0, 1), (0, 2)], [(0, 3), (0, 4)])
        self.holds(Map(Island(("A..~.",)), "A", (1,), [("walk", 1, 20)]), [(0, 0), (0, 1)], [(0, 2)])

    def test_until(self):
        chart = Map(Island(("A..B.", ".....")), "A", (1, 2), [("until", "B")])
        self.holds(chart, [(0, 0), (0, 1), (0, 2), (0, 3)], [])
        chart = Map(Island(("A.B", "...", "B..")), "A", (1, 2), [("until", "B")])
        self.holds(chart, [(0, 0)], [(0, 1), (0, 2), (1, 0), (2, 0)])

    def test_until_the_sign_of_the_first_cell(self):
        self.holds(Map(Island(("A.A.A",)), "A", (1,), [("until", "A"), ("near", "A", 0)]), [(0, 2)],
                   [(0, 0), (0, 1), (0, 3), (0, 4)])

    def test_shore_that_turns(self):
        chart = Map(Island(("A..", ".~.", "...")), "A", (1,), [("shore", 3, 5, 5)])
        self.holds(chart, [(0, 0), (0, 1), (0, 2), (1, 2), (2, 1), (2, 2)], [])
        chart = Map(Island(("A..", ".~.", "...")), "A", (1,), [("shore", 3, 3, 6)])
        self.holds(chart, [(0, 0), (0, 1), (0, 2), (1, 2)], [(2, 0), (2, 1), (2, 2)])

    def test_shore_to_one_state_with_several_numbers_of_paces(self):
        rows = ("AB", "..")
        self.holds(Map(Island(rows), "A", (1,), [("shore", 3, 1, 20), ("near", "B", 0)]), [(0, 0), (0, 1)], [])
        self.holds(Map(Island(rows), "A", (1,), [("shore", 3, 1, 1)]), [(0, 0), (0, 1)], [])
        whole = [(0, 0), (0, 1), (1, 0), (1, 1)]
        self.holds(Map(Island(rows), "A", (1,), [("shore", 3, 2, 20), ("near", "B", 0)]), whole, [])
        self.holds(Map(Island(rows), "A", (1,), [("shore", 3, 5, 5)]), whole, [])

    def test_shore_back_to_the_first_state(self):
        rows = ("...", ".A.", "...")
        chart = Map(Island(rows), "A", (0,), [("shore", 3, 1, 20), ("near", "A", 0)])
        self.holds(chart, [(1, 0), (1, 1), (2, 0), (2, 1)], [])
        chart = Map(Island(rows), "A", (0,), [("shore", 3, 0, 20), ("near", "A", 0)])
        self.holds(chart, [(1, 1)], [])

    def test_instructions_that_leave_one_where_one_is(self):
        told = [("turn", (0, 2)), ("toward", "B"), ("beside", 0, "."), ("near", "B", 4)]
        self.holds(Map(Island(("A..B",)), "A", (1,), told), [(0, 0)], [])

    def test_cells_of_the_beginning(self):
        self.holds(Map(ISLAND, "A", (0, 3), []), [(0, 2)], [])
        self.holds(Map(ISLAND, "AB", (0,), []), [], [(0, 2), (2, 0)])
        self.holds(Map(Island(("A.B",)), "AB", (1, 3), [("walk", 2, 2)]), [(0, 0), (0, 1), (0, 2)], [])

    def test_only_ways_to_the_end_count(self):
        chart = Map(Island(("..A..B",)), "A", (1, 3), [("walk", 1, 3), ("near", "B", 0)])
        self.holds(chart, [(0, 2), (0, 3), (0, 4), (0, 5)], [])
        chart = Map(Island(("B.A..B",)), "A", (1, 3), [("walk", 1, 2), ("near", "B", 1), ("walk", 1, 1)])
        self.holds(chart, [(0, 2)], [(0, 0), (0, 1), (0, 3), (0, 4), (0, 5)])

    def test_crossed_by_all_ways_but_by_several_instructions(self):
        chart = Map(Island(("A...",)), "A", (1,), [("walk", 0, 1), ("walk", 1, 1), ("walk", 0, 1)])
        self.holds(chart, [(0, 0), (0, 1)], [(0, 2), (0, 3)])

    def test_against_all_ways_one_by_one(self):
        for chart in LEADING:
            with self.subTest(chart=chart.instructions):
                found = brute(chart)
                self.assertEqual(list(crossings(chart).items()), list(found.items()))
                for cell in LETTERED.cells:
                    self.assertEqual(crossed(chart, cell), found.get(cell, "never"))

    def test_twenty_instructions(self):
        chart = Map(WIDE, "A", (1,), [("walk", 0, 1), ("turn", (0, 1))] * 10)
        # The first pace leads east, so that not all ten can lead south.
        reached = [cell for cell in WIDE.cells if 0 < sum(cell) <= 10 and cell != (10, 0)]
        self.holds(chart, [(0, 0)], reached)
        chart = Map(WIDE, "A", (1,), [("walk", 5, 11), ("turn", (0, 1, 2, 3))] * 10)
        found = crossings(chart)
        self.assertEqual([cell for cell, word in found.items() if word == "surely"], [(0, at) for at in range(6)])
        self.assertEqual(len(found), 144)

    def test_no_way(self):
        for chart in (NOWHERE, WITHOUT_BEGINNING) + CHARTS[4:]:
            with self.subTest(chart=chart.instructions):
                raised(NoWay, crossings, chart)
                for cell in chart.island.cells:
                    raised(NoWay, crossed, chart, cell)

    def test_unknown_cells(self):
        for chart in (Map(ISLAND, "A", (2,), [("walk", 0, 2)]), NOWHERE, WITHOUT_BEGINNING):
            for cell in unknown_cells(ISLAND):
                with self.subTest(chart=chart.instructions, cell=cell):
                    raised(UnknownCell, crossed, chart, cell)

    def test_repeated_calls(self):
        for chart in LEADING:
            check_repeated(self, crossings, chart)
            check_repeated(self, crossed, chart, (1, 2))


if __name__ == "__main__":
    unittest.main()
