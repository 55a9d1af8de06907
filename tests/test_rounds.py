"""Point 23: the instructions of a chart, round after round."""

import unittest

from helpers import ALL_FACINGS, CHARTS, LETTERED, check_repeated, every_way, raised, single_steps, unknown_cells
from oldmap.errors import InvalidNumber, UnknownCell
from oldmap.following import begin_states, cells_of, final_states
from oldmap.islands import Island
from oldmap.maps import Map
from oldmap.rounds import first_round, round_ways, states_after_rounds, stays
from oldmap.ways import way_count

GREAT = 10 ** 18
ROW = Island(("A.....",))
WIDE = Island(("............",) * 12)

# Along the shores of five islands the states come again behind 22, 14, 4, 10 and 6 rounds, so that all of them together
# do so behind 4620 rounds only.
SEPARATE = Island(("A...........", "~~~~~~~~~~~~", "A.......~A..", "~~~~~~~~~~~~", "A.....~A...~"))
SHORE = Map(SEPARATE, "A", (3,), [("shore", 3, 1, 1)])
LENGTHS = {(0, 0): 12, (2, 0): 8, (2, 9): 3, (4, 0): 6, (4, 7): 4}

# More charts of the island on which each cell has a letter of its own.
MORE = (
    Map(LETTERED, "A", (1,), [("shore", 3, 1, 1)]),
    Map(LETTERED, "EIM", ALL_FACINGS, [("walk", 1, 1), ("turn", (0, 1))]),
    Map(LETTERED, "KP", (0, 3), [("turn", (1, 2)), ("walk", 0, 1), ("beside", 1, "~"), ("shore", 1, 0, 2)]),
)


def there_and_back(count):
    """The states of SHORE behind so many rounds: one goes along each row of land, and back."""
    found = []
    for (row, column), length in LENGTHS.items():
        paces = count % (2 * length - 2)
        if 0 < paces < length:
            found.append((row, column + paces, 1))
        else:
            found.append((row, column + (2 * length - 2 - paces) % (2 * length - 2), 3))
    return sorted(found)


def brute_rounds(chart, count):
    """The states behind 0, 1, 2 .. rounds, and the numbers of ways of them."""
    steps = [single_steps(chart.island, instruction) for instruction in chart.instructions]
    many = {state: 1 for state in begin_states(chart)}
    found = [(sorted(many), sum(many.values()))]
    for _ in range(count):
        for step in steps:
            behind = {}
            for state, number in many.items():
                for other in step[state]:
                    behind[other] = behind.get(other, 0) + number
            many = behind
        found.append((sorted(many), sum(many.values())))
    return found


class AfterRounds(unittest.TestCase):
    def test_by_hand(self):
        chart = Map(ROW, "A", (1,), [("walk", 1, 2)])
        self.assertEqual(states_after_rounds(chart, 0), [(0, 0, 1)])
        self.assertEqual(states_after_rounds(chart, 1), [(0, 1, 1), (0, 2, 1)])
        self.assertEqual(states_after_rounds(chart, 2), [(0, 2, 1), (0, 3, 1), (0, 4, 1)])
        self.assertEqual(states_after_rounds(chart, 5), [(0, 5, 1)])
        for count in (6, 7, 1000, GREAT - 1, GREAT):
            self.assertEqual(states_after_rounds(chart, count), [])

    def test_rounds_that_turn(self):
        chart = Map(ROW, "A", (0, 1), [("turn", (1,))])
        for count in range(9):
            expected = sorted([(0, 0, count % 4), (0, 0, (count + 1) % 4)])
            self.assertEqual(states_after_rounds(chart, count), expected)
            self.assertEqual(states_after_rounds(chart, GREAT - 8 + count), expected)
        self.assertEqual(states_after_rounds(chart, GREAT - 1), [(0, 0, 0), (0, 0, 3)])

    def test_no_instructions(self):
        for chart in CHARTS:
            for count in (0, 1, 2, 60, GREAT):
                self.assertEqual(states_after_rounds(chart.until(0), count), begin_states(chart))

    def test_the_beginning_counts_once(self):
        chart = Map(ROW, "A", (1,), [("walk", 1, 1), ("turn", (0, 2))])
        self.assertEqual(states_after_rounds(chart, 2), [(0, 0, 1), (0, 0, 3), (0, 2, 1), (0, 2, 3)])

    def test_states_that_come_again_only_after_many_rounds(self):
        self.assertEqual(begin_states(SHORE), there_and_back(0))
        for count in (0, 1, 2, 3, 5, 11, 12, 21, 22, 2310, 4619, 4620, 4621, 10 ** 6 + 17, GREAT - 1, GREAT):
            with self.subTest(count=count):
                self.assertEqual(states_after_rounds(SHORE, count), there_and_back(count))
                self.assertEqual(states_after_rounds(SHORE, count) == begin_states(SHORE), count % 4620 == 0)

    def test_charts_that_begin_nowhere(self):
        for count in (0, 1, GREAT):
            self.assertEqual(states_after_rounds(CHARTS[6], count), [])

    def test_against_single_steps(self):
        for chart in CHARTS + MORE:
            for count, (states, _) in enumerate(brute_rounds(chart, 8)):
                with self.subTest(signs=chart.signs, count=count):
                    self.assertEqual(states_after_rounds(chart, count), states)

    def test_great_counts_against_single_steps(self):
        for chart in CHARTS:
            found = [states for states, _ in brute_rounds(chart, 120)]
            again = found.index(found[-1])
            period = found.index(found[-1], again + 1) - again
            for count in (GREAT, GREAT - 1, 10 ** 9 + 7):
                with self.subTest(signs=chart.signs, count=count):
                    self.assertEqual(states_after_rounds(chart, count), found[again + (count - again) % period])

    def test_twenty_instructions_on_a_great_island(self):
        chart = Map(WIDE, ".", (0,), [("walk", 1, 20), ("turn", (0, 1))] * 10)
        states = states_after_rounds(chart, GREAT)
        self.assertEqual(cells_of(states), WIDE.cells)
        self.assertEqual(states_after_rounds(chart, GREAT - 1), states)

    def test_counts_out_of_range(self):
        for chart in CHARTS:
            for count in (-1, GREAT + 1, -GREAT, 2 * GREAT, True, False):
                raised(InvalidNumber, states_after_rounds, chart, count)

    def test_repeated_calls(self):
        for chart in CHARTS:
            for count in (0, 1, 5, GREAT):
                check_repeated(self, states_after_rounds, chart, count)


class FirstRound(unittest.TestCase):
    def test_by_hand(self):
        chart = Map(ROW, "A", (1,), [("walk", 1, 2)])
        self.assertEqual([first_round(chart, cell) for cell in ROW.cells], [0, 1, 1, 2, 2, 3])
        chart = Map(ROW, "A", (1,), [("walk", 2, 2)])
        self.assertEqual([first_round(chart, cell) for cell in ROW.cells], [0, None, 1, None, 2, None])

    def test_cells_within_a_round_do_not_count(self):
        chart = Map(ROW, "A", (1,), [("walk", 1, 1), ("walk", 2, 2), ("turn", (2,))])
        self.assertEqual([first_round(chart, cell) for cell in ROW.cells], [0, None, None, 1, None, None])

    def test_many_rounds(self):
        island = Island(("A...........",) + ("~~~~~~~~~~~.", "............", ".~~~~~~~~~~~", "............") * 2)
        chart = Map(island, "A", (1,), [("shore", 3, 1, 1)])
        cells = [(0, 11), (1, 11), (2, 11), (2, 0), (4, 0), (4, 11), (6, 11), (6, 0), (8, 0), (8, 11)]
        self.assertEqual([first_round(chart, cell) for cell in cells], [11, 12, 13, 24, 26, 37, 39, 50, 52, 63])

    def test_against_single_steps(self):
        for chart in CHARTS + MORE:
            found = [[state[:2] for state in states] for states, _ in brute_rounds(chart, 130)]
            for cell in chart.island.cells:
                expected = next((count for count, cells in enumerate(found) if cell in cells), None)
                with self.subTest(signs=chart.signs, cell=cell):
                    self.assertEqual(first_round(chart, cell), expected)

    def test_cells_that_are_never_come_to(self):
        self.assertIsNone(first_round(CHARTS[6], (0, 0)))
        self.assertIsNone(first_round(CHARTS[0], (0, 1)))
        self.assertIsNone(first_round(Map(ROW, "A", (3,), [("walk", 1, 2)]), (0, 1)))
        self.assertIsNone(first_round(CHARTS[1].until(0), (0, 1)))

    def test_unknown_cells(self):
        for chart in CHARTS:
            for cell in unknown_cells(chart.island):
                raised(UnknownCell, first_round, chart, cell)

    def test_repeated_calls(self):
        for chart in CHARTS:
            for cell in chart.island.cells[::4]:
                check_repeated(self, first_round, chart, cell)


class RoundWays(unittest.TestCase):
    def test_by_hand(self):
        chart = Map(ROW, "A", (1,), [("walk", 1, 2)])
        # As many ways as there are lists of so many ones and twos with a sum of at most five.
        self.assertEqual([round_ways(chart, count) for count in range(8)], [1, 2, 4, 7, 5, 1, 0, 0])

    def test_ways_that_differ_within_a_round(self):
        # There and back: the states behind the round are the same, those within it are not.
        chart = Map(ROW, "A", (1,), [("walk", 0, 2), ("turn", (2,)), ("until", "A"), ("turn", (2,))])
        self.assertEqual(round_ways(chart, 1), 2)
        self.assertEqual(round_ways(chart, 3), 8)
        self.assertEqual(round_ways(chart, 60), 2 ** 60)

    def test_no_round_and_no_instructions(self):
        for chart in CHARTS:
            begins = len(begin_states(chart))
            self.assertEqual(round_ways(chart, 0), begins)
            for count in (0, 1, 59, 60):
                self.assertEqual(round_ways(chart.until(0), count), begins)

    def test_one_round_has_the_ways_of_the_chart(self):
        for chart in CHARTS:
            self.assertEqual(round_ways(chart, 1), way_count(chart))
            self.assertEqual(round_ways(chart, 1), len(every_way(chart)))

    def test_several_rounds_have_the_ways_of_a_longer_chart(self):
        for chart in CHARTS:
            for count in range(2, 20 // max(1, len(chart)) + 1):
                with self.subTest(signs=chart.signs, count=count):
                    longer = chart.with_instructions(chart.instructions * count)
                    self.assertEqual(round_ways(chart, count), way_count(longer))
                    self.assertEqual(states_after_rounds(chart, count), final_states(longer))

    def test_against_single_steps(self):
        for chart in CHARTS + MORE:
            for count, (_, many) in enumerate(brute_rounds(chart, 60)):
                if count < 5 or count > 57:
                    with self.subTest(signs=chart.signs, count=count):
                        self.assertEqual(round_ways(chart, count), many)

    def test_twenty_instructions_on_a_great_island(self):
        chart = Map(WIDE, ".", ALL_FACINGS, [("turn", (0, 1, 2, 3)), ("near", ".", 1)] * 10)
        self.assertEqual(round_ways(chart, 60), 576 * 4 ** 600)

    def test_counts_out_of_range(self):
        for chart in CHARTS:
            for count in (-1, 61, 62, GREAT, -60, True, False):
                raised(InvalidNumber, round_ways, chart, count)

    def test_repeated_calls(self):
        for chart in CHARTS:
            for count in (0, 1, 7):
                check_repeated(self, round_ways, chart, count)


class Stays(unittest.TestCase):
    def test_by_hand(self):
        self.assertEqual(stays(Map(Island(("A.",)), "A", (1,), [("walk", 0, 1)])), [
            (0, column, facing) for column in range(2) for facing in range(4)
        ])
        self.assertEqual(stays(Map(Island(("A.",)), "A", (1,), [("walk", 1, 1)])), [])
        self.assertEqual(stays(Map(Island(("A.",)), "A", (1,), [("walk", 1, 1), ("turn", (2,))] * 2)), [
            (0, 0, 1), (0, 1, 3)
        ])

    def test_cells_where_the_chart_does_not_begin(self):
        chart = Map(ROW, "A", (1,), [("beside", 0, "~"), ("turn", (0, 1))])
        expected = [(0, 0, 3), (0, 5, 1)] + [(0, column, facing) for column in range(6) for facing in (0, 2)]
        self.assertEqual(stays(chart), sorted(expected))
        nowhere = Map(ROW, "Z", (1,), [("beside", 0, "~"), ("turn", (0, 1))])
        self.assertEqual(stays(nowhere), stays(chart))

    def test_no_instructions(self):
        for chart in CHARTS:
            everyone = [(row, column, facing) for row, column in LETTERED.cells for facing in ALL_FACINGS]
            self.assertEqual(stays(chart.until(0)), everyone)

    def test_islands_without_land(self):
        chart = Map(Island(("~~",)), ".", (0,), [("walk", 0, 1)])
        self.assertEqual(stays(chart), [])
        self.assertEqual(states_after_rounds(chart, GREAT), [])
        self.assertEqual(round_ways(chart, 60), 0)

    def test_against_single_steps(self):
        for chart in CHARTS + MORE:
            steps = [single_steps(chart.island, instruction) for instruction in chart.instructions]
            expected = []
            for row, column in chart.island.cells:
                for facing in ALL_FACINGS:
                    found = {(row, column, facing)}
                    for step in steps:
                        found = {other for state in found for other in step[state]}
                    if (row, column, facing) in found:
                        expected.append((row, column, facing))
            with self.subTest(signs=chart.signs):
                self.assertEqual(stays(chart), expected)

    def test_repeated_calls(self):
        for chart in CHARTS:
            check_repeated(self, stays, chart)


if __name__ == "__main__":
    unittest.main()
