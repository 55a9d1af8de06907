"""Points 6 and 7, and point 1 as far as it is about following."""

import unittest

from helpers import ALL_FACINGS, CHARTS, LETTERED, every_way, raised
from oldmap.errors import UnknownCell
from oldmap.following import begin_states, begins_to, ends_from, final_states, impossible_at, places
from oldmap.islands import Island
from oldmap.maps import Map

ISLAND = Island(("..A", ".~.", "B.."))


def all_states(island):
    """All states on the island and some around it, also on water and with facings that there are not."""
    return [
        (row, column, facing)
        for row in range(-1, island.height + 1)
        for column in range(-1, island.width + 1)
        for facing in range(-1, 5)
    ]


def turned_state(island, state):
    row, column, facing = state
    return (column, island.height - 1 - row, (facing + 1) % 4)


class Following(unittest.TestCase):
    def test_without_instructions(self):
        chart = Map(ISLAND, "AB", (0, 3), [])
        states = [(0, 2, 0), (0, 2, 3), (2, 0, 0), (2, 0, 3)]
        self.assertEqual(begin_states(chart), states)
        self.assertEqual(final_states(chart), states)
        self.assertEqual(places(chart), [(0, 2), (2, 0)])
        self.assertIsNone(impossible_at(chart))

    def test_begin_states_ascend(self):
        chart = Map(Island(("B.A", "~.B")), ".B", (1, 2), [("walk", 9, 9)])
        self.assertEqual(
            begin_states(chart),
            [(0, 0, 1), (0, 0, 2), (0, 1, 1), (0, 1, 2), (1, 1, 1), (1, 1, 2), (1, 2, 1), (1, 2, 2)],
        )

    def test_several_instructions(self):
        chart = Map(ISLAND, "A", (2, 3), [("walk", 1, 2), ("turn", (3,)), ("walk", 0, 1)])
        self.assertEqual(final_states(chart.until(1)), [(0, 0, 3), (0, 1, 3), (1, 2, 2), (2, 2, 2)])
        self.assertEqual(final_states(chart.until(2)), [(0, 0, 2), (0, 1, 2), (1, 2, 1), (2, 2, 1)])
        self.assertEqual(final_states(chart), [(0, 0, 2), (0, 1, 2), (1, 0, 2), (1, 2, 1), (2, 2, 1)])
        self.assertEqual(places(chart), [(0, 0), (0, 1), (1, 0), (1, 2), (2, 2)])

    def test_states_and_places_stand_once(self):
        chart = Map(Island(("A...",)), "A", (1,), [("walk", 0, 2), ("walk", 0, 1), ("turn", (0, 2))])
        self.assertEqual(
            final_states(chart),
            [(0, 0, 1), (0, 0, 3), (0, 1, 1), (0, 1, 3), (0, 2, 1), (0, 2, 3), (0, 3, 1), (0, 3, 3)],
        )
        self.assertEqual(places(chart), [(0, 0), (0, 1), (0, 2), (0, 3)])

    def test_charts_that_lead_nowhere(self):
        chart = Map(Island(("A..~",)), "A", (1,), [("walk", 1, 1), ("walk", 2, 2), ("turn", (0,)), ("near", "A", 22)])
        self.assertEqual(begin_states(chart), [(0, 0, 1)])
        self.assertEqual(final_states(chart), [])
        self.assertEqual(places(chart), [])
        self.assertEqual(impossible_at(chart), 2)
        self.assertIsNone(impossible_at(chart.until(1)))
        self.assertEqual(impossible_at(chart.until(2)), 2)
        self.assertEqual(impossible_at(chart.without([0])), None)

    def test_impossible_behind_each_number(self):
        for number in range(20):
            with self.subTest(number=number):
                chart = Map(ISLAND, "A", (0,), [("turn", (0,))] * number + [("until", "C")])
                self.assertEqual(impossible_at(chart), number + 1)

    def test_charts_that_begin_nowhere(self):
        for instructions in ([], [("turn", (0,))], [("walk", 0, 9), ("until", "A")]):
            chart = Map(ISLAND, "CD", ALL_FACINGS, instructions)
            self.assertEqual(begin_states(chart), [])
            self.assertEqual(final_states(chart), [])
            self.assertEqual(places(chart), [])
            self.assertEqual(impossible_at(chart), 0)
            self.assertEqual(begins_to(chart, (0, 2)), [])
            self.assertEqual(ends_from(chart, (0, 2, 0)), [])

    def test_an_island_without_land(self):
        chart = Map(Island(("~~",)), ".", (0,), [("turn", (0,))])
        self.assertEqual(places(chart), [])
        self.assertEqual(impossible_at(chart), 0)
        raised(UnknownCell, begins_to, chart, (0, 0))

    def test_against_all_ways_one_by_one(self):
        for chart in CHARTS:
            with self.subTest(chart=chart.instructions):
                ways = every_way(chart)
                ends = {way[-1] for way in ways}
                self.assertEqual(final_states(chart), sorted(ends))
                self.assertEqual(places(chart), sorted({(row, column) for row, column, _ in ends}))

    def test_impossible_against_all_ways_one_by_one(self):
        for chart in CHARTS:
            with self.subTest(chart=chart.instructions):
                empty = [number for number in range(len(chart) + 1) if not every_way(chart.until(number))]
                self.assertEqual(impossible_at(chart), empty[0] if empty else None)

    def test_turned_charts(self):
        for chart in CHARTS:
            with self.subTest(chart=chart.instructions):
                turned = chart.turned()
                for states in (begin_states, final_states):
                    expected = sorted(turned_state(LETTERED, state) for state in states(chart))
                    self.assertEqual(states(turned), expected)


class BeginningsAndEnds(unittest.TestCase):
    def test_begins_to(self):
        chart = Map(ISLAND, "A", (2, 3), [("walk", 0, 2)])
        self.assertEqual(begins_to(chart, (0, 2)), [(0, 2, 2), (0, 2, 3)])
        self.assertEqual(begins_to(chart, (0, 1)), [(0, 2, 3)])
        self.assertEqual(begins_to(chart, (2, 2)), [(0, 2, 2)])
        self.assertEqual(begins_to(chart, (2, 0)), [])

    def test_ends_from(self):
        chart = Map(ISLAND, "AB", (0, 3), [("walk", 0, 1), ("turn", (3,)), ("walk", 0, 1)])
        self.assertEqual(ends_from(chart, (0, 2, 0)), [(0, 1), (0, 2)])
        self.assertEqual(ends_from(chart, (0, 2, 3)), [(0, 1), (0, 2), (1, 2)])
        self.assertEqual(ends_from(chart, (2, 0, 0)), [(1, 0), (2, 0)])
        self.assertEqual(ends_from(chart, (2, 0, 3)), [(2, 0)])

    def test_without_instructions(self):
        chart = Map(ISLAND, "AB", (0, 3), [])
        self.assertEqual(begins_to(chart, (0, 2)), [(0, 2, 0), (0, 2, 3)])
        self.assertEqual(begins_to(chart, (0, 0)), [])
        self.assertEqual(ends_from(chart, (2, 0, 3)), [(2, 0)])
        self.assertEqual(ends_from(chart, (2, 0, 1)), [])

    def test_charts_that_lead_nowhere(self):
        chart = Map(ISLAND, "A", (2, 3), [("walk", 0, 2), ("until", "C")])
        for cell in ISLAND.cells:
            self.assertEqual(begins_to(chart, cell), [])
        for state in all_states(ISLAND):
            self.assertEqual(ends_from(chart, state), [])

    def test_every_cell_against_all_ways_one_by_one(self):
        for chart in CHARTS:
            ways = every_way(chart)
            for cell in LETTERED.cells:
                with self.subTest(chart=chart.instructions, cell=cell):
                    expected = sorted({way[0] for way in ways if way[-1][:2] == cell})
                    self.assertEqual(begins_to(chart, cell), expected)

    def test_every_state_against_all_ways_one_by_one(self):
        for chart in CHARTS:
            ways = every_way(chart)
            for state in all_states(LETTERED):
                with self.subTest(chart=chart.instructions, state=state):
                    expected = sorted({way[-1][:2] for way in ways if way[0] == state})
                    self.assertEqual(ends_from(chart, state), expected)

    def test_unknown_cells(self):
        for chart in (Map(ISLAND, "A", (2,), [("walk", 0, 2)]), Map(ISLAND, "C", (2,), []), Map(ISLAND, "A", (2,), [])):
            for cell in ((1, 1), (-1, 0), (0, -1), (3, 0), (0, 3), (-1, -1), (99, 99), (True, 0), (0, False)):
                with self.subTest(chart=chart.instructions, cell=cell):
                    raised(UnknownCell, begins_to, chart, cell)

    def test_states_in_which_one_cannot_begin(self):
        chart = Map(ISLAND, ".AB", (0, 1), [("walk", 0, 2)])
        wrong_facings = ((0, 0, 2), (0, 0, -1), (0, 0, 4))
        beyond = ((-1, 0, 0), (0, -1, 1), (3, 0, 0), (0, 3, 1), (9, 9, 9))
        for state in wrong_facings + beyond + ((1, 1, 0),):
            with self.subTest(state=state):
                self.assertEqual(ends_from(chart, state), [])

    def test_booleans_in_states(self):
        chart = Map(ISLAND, ".AB", (0, 1), [("walk", 0, 2)])
        self.assertEqual(ends_from(chart, (0, 1, 1)), [(0, 1), (0, 2)])
        for state in ((False, 1, 1), (0, True, 1), (0, 1, True), (0, 1, False)):
            with self.subTest(state=state):
                self.assertEqual(ends_from(chart, state), [])


class RepeatedCalls(unittest.TestCase):
    def test_returned_lists_belong_to_the_caller(self):
        for chart in CHARTS:
            same = Map(LETTERED, chart.signs, chart.facings, chart.instructions)
            for call in (
                begin_states,
                final_states,
                places,
                lambda told: begins_to(told, (2, 2)),
                lambda told: ends_from(told, (0, 0, 1)),
            ):
                first = call(chart)
                kept = list(first)
                first.append((99, 99, 99))
                first.reverse()
                self.assertEqual(call(chart), kept)
            self.assertEqual(impossible_at(chart), impossible_at(chart))
            self.assertEqual(chart, same)


if __name__ == "__main__":
    unittest.main()
