"""Points 8 and 9: the ways of a chart, their numbers and their ends."""

import math
import unittest

from helpers import ALL_FACINGS, CHARTS, LEADING, LETTERED, check_repeated, every_way, raised, unknown_cells
from oldmap.errors import InvalidNumber, NoWay, UnknownCell
from oldmap.islands import Island
from oldmap.maps import Map
from oldmap.ways import chance, likeliest, number_of, way_at, way_count, ways, weights

ISLAND = Island(("..A", ".~.", "B.."))
ROW = Island(("A" + "." * 11,))
WIDE = Island(("A" + "." * 11,) + ("." * 12,) * 11)

NOWHERE = Map(ISLAND, "A", (2, 3), [("walk", 0, 2), ("until", "C"), ("turn", (0, 1))])
WITHOUT_BEGINNING = Map(ISLAND, "C", ALL_FACINGS, [("walk", 0, 2)])

# In each step to any facing: the number of a way, written to the base 4, has its facings as digits.
TURNING = Map(WIDE, "A", (2,), [("turn", ALL_FACINGS)] * 20)

# In each step a pace or none, eleven paces at most.
PACING = Map(ROW, "A", (1,), [("walk", 0, 1)] * 20)

# The shore, walks and turns, all over the island.
ROAMING = Map(
    WIDE, ".A", ALL_FACINGS, [("shore", 1, 0, 20), ("walk", 0, 11), ("turn", ALL_FACINGS), ("near", ".", 3)] * 5
)


def digits(number):
    """The twenty digits of a number to the base 4."""
    return [number // 4 ** (19 - place) % 4 for place in range(20)]


def brute_weights(chart):
    ends = [way[-1][:2] for way in every_way(chart)]
    return {cell: ends.count(cell) for cell in sorted(set(ends))}


class FewWays(unittest.TestCase):
    def test_each_way_by_hand(self):
        chart = Map(Island(("A.B",)), "AB", (1, 3), [("walk", 0, 1), ("turn", (0, 2))])
        told = [
            ((0, 0, 1), (0, 0, 1), (0, 0, 1)),
            ((0, 0, 1), (0, 0, 1), (0, 0, 3)),
            ((0, 0, 1), (0, 1, 1), (0, 1, 1)),
            ((0, 0, 1), (0, 1, 1), (0, 1, 3)),
            ((0, 0, 3), (0, 0, 3), (0, 0, 1)),
            ((0, 0, 3), (0, 0, 3), (0, 0, 3)),
            ((0, 2, 1), (0, 2, 1), (0, 2, 1)),
            ((0, 2, 1), (0, 2, 1), (0, 2, 3)),
            ((0, 2, 3), (0, 1, 3), (0, 1, 1)),
            ((0, 2, 3), (0, 1, 3), (0, 1, 3)),
            ((0, 2, 3), (0, 2, 3), (0, 2, 1)),
            ((0, 2, 3), (0, 2, 3), (0, 2, 3)),
        ]
        self.assertEqual(list(ways(chart)), told)
        self.assertEqual(way_count(chart), 12)
        for number, way in enumerate(told):
            self.assertEqual(way_at(chart, number), way)
            self.assertEqual(number_of(chart, way), number)

    def test_against_all_ways_one_by_one(self):
        for chart in CHARTS + (NOWHERE, WITHOUT_BEGINNING):
            with self.subTest(chart=chart.instructions):
                expected = sorted(tuple(way) for way in every_way(chart)) if chart.island == LETTERED else []
                self.assertEqual(list(ways(chart)), expected)
                self.assertEqual(way_count(chart), len(expected))
                for number in range(0, len(expected), 1 + len(expected) // 60):
                    self.assertEqual(way_at(chart, number), expected[number])
                    self.assertEqual(number_of(chart, expected[number]), number)

    def test_ways_are_tuples_of_tuples(self):
        for way in ways(CHARTS[1]):
            self.assertIs(type(way), tuple)
            self.assertEqual({type(state) for state in way}, {tuple})
        self.assertIs(type(way_at(CHARTS[1], 0)), tuple)

    def test_several_numbers_of_paces_to_one_state_are_one_way(self):
        chart = Map(Island(("A.", "..")), "A", (1,), [("shore", 3, 0, 20)])
        self.assertEqual([way[1] for way in ways(chart)], [(0, 0, 0), (0, 0, 1), (0, 1, 1), (1, 0, 3), (1, 1, 2)])

    def test_without_instructions(self):
        chart = Map(ISLAND, "AB", (0, 3), [])
        told = [((0, 2, 0),), ((0, 2, 3),), ((2, 0, 0),), ((2, 0, 3),)]
        self.assertEqual(list(ways(chart)), told)
        self.assertEqual(way_count(chart), 4)
        self.assertEqual([way_at(chart, number) for number in range(4)], told)
        self.assertEqual([number_of(chart, way) for way in told], [0, 1, 2, 3])
        raised(InvalidNumber, way_at, chart, 4)
        self.assertIsNone(number_of(chart, ()))
        self.assertIsNone(number_of(chart, ((0, 2, 1),)))
        self.assertIsNone(number_of(chart, ((0, 2, 0), (0, 2, 0))))

    def test_charts_that_lead_or_begin_nowhere(self):
        for chart in (NOWHERE, WITHOUT_BEGINNING, Map(Island(("~",)), ".", (0,), [])):
            with self.subTest(chart=chart.instructions):
                self.assertEqual(way_count(chart), 0)
                self.assertEqual(list(ways(chart)), [])
                for number in (-1, 0, 1, True, False):
                    raised(InvalidNumber, way_at, chart, number)
        self.assertIsNone(number_of(NOWHERE, ((0, 2, 3), (0, 1, 3))))
        self.assertIsNone(number_of(NOWHERE, ((0, 2, 3), (0, 1, 3), (0, 0, 3), (0, 0, 3))))
        self.assertIsNone(number_of(WITHOUT_BEGINNING, ((0, 2, 3), (0, 1, 3))))


class ManyWays(unittest.TestCase):
    def test_count(self):
        self.assertEqual(way_count(TURNING), 4 ** 20)
        self.assertEqual(way_count(PACING), sum(math.comb(20, paces) for paces in range(12)))
        self.assertGreater(way_count(ROAMING), 10 ** 14)

    def test_numbers_and_ways(self):
        for number in (0, 1, 4, 12345678901, 4 ** 19, 4 ** 20 - 2, 4 ** 20 - 1):
            way = ((0, 0, 2),) + tuple((0, 0, facing) for facing in digits(number))
            self.assertEqual(way_at(TURNING, number), way)
            self.assertEqual(number_of(TURNING, way), number)

    def test_the_numbers_of_ways_all_over_the_island(self):
        count = way_count(ROAMING)
        last = None
        for number in sorted([0, 1, count // 7, count // 3, count // 3 + 1, count // 2, count - 2, count - 1]):
            way = way_at(ROAMING, number)
            self.assertEqual(len(way), 21)
            self.assertEqual(number_of(ROAMING, way), number)
            self.assertTrue(last is None or last < way)
            last = way
        raised(InvalidNumber, way_at, ROAMING, count)

    def test_the_first_ways_come_without_the_others(self):
        found = []
        for way in ways(TURNING):
            found.append(way)
            if len(found) == 70:
                break
        self.assertEqual(found, [way_at(TURNING, number) for number in range(70)])
        self.assertEqual([state[2] for state in found[69][1:]], digits(69))

    def test_weights(self):
        self.assertEqual(weights(PACING), {(0, paces): math.comb(20, paces) for paces in range(12)})
        self.assertEqual(weights(TURNING), {(0, 0): 4 ** 20})
        self.assertEqual(sum(weights(ROAMING).values()), way_count(ROAMING))

    def test_chance_and_likeliest(self):
        count = way_count(PACING)
        shared = math.gcd(math.comb(20, 7), count)
        self.assertEqual(chance(PACING, (0, 7)), (math.comb(20, 7) // shared, count // shared))
        self.assertEqual(likeliest(PACING), [(0, 10)])
        self.assertEqual(chance(TURNING, (0, 0)), (1, 1))
        self.assertEqual(chance(TURNING, (11, 11)), (0, 1))


class WrongNumbersAndWays(unittest.TestCase):
    def test_wrong_numbers(self):
        for chart in CHARTS + (TURNING,):
            count = way_count(chart)
            for number in (-1, -2, -count, -count - 1, count, count + 1, 2 * count + 9, 10 ** 30, True, False):
                with self.subTest(chart=chart.instructions, number=number):
                    raised(InvalidNumber, way_at, chart, number)

    def test_tuples_that_are_no_ways(self):
        chart = Map(ISLAND, "A", (2, 3), [("walk", 0, 2), ("turn", (0, 1))])
        way = ((0, 2, 3), (0, 0, 3), (0, 0, 0))
        self.assertEqual(number_of(chart, way), 6)
        for wrong in (
            (),
            way[:1],
            way[:2],
            way[1:],
            way + way[-1:],
            way + way,
            ((0, 2, 0),) + way[1:],
            ((2, 0, 3),) + way[1:],
            (way[0], (0, 0, 2), way[2]),
            (way[0], (1, 0, 3), way[2]),
            way[:2] + ((0, 0, 1),),
            way[:2] + ((0, 1, 0),),
            way[::-1],
        ):
            with self.subTest(way=wrong):
                self.assertIsNone(number_of(chart, wrong))

    def test_states_beyond_the_island_and_on_water(self):
        chart = Map(ISLAND, "A", (2, 3), [("walk", 0, 2), ("turn", (0, 1))])
        way = ((0, 2, 3), (0, 0, 3), (0, 0, 0))
        for state in ((0, -1, 3), (-1, 0, 3), (0, 3, 3), (3, 0, 3), (99, 99, 3), (1, 1, 3), (0, 0, 4), (0, 0, -1)):
            for place in range(3):
                with self.subTest(state=state, place=place):
                    self.assertIsNone(number_of(chart, way[:place] + (state,) + way[place + 1:]))

    def test_states_with_booleans(self):
        chart = Map(Island(("AB", "CD")), "ABCD", (0, 1), [("walk", 0, 1)])
        self.assertEqual(number_of(chart, ((0, 0, 1), (0, 1, 1))), 2)
        for wrong in (
            ((False, 0, 1), (0, 1, 1)),
            ((0, False, 1), (0, 1, 1)),
            ((0, 0, True), (0, 1, 1)),
            ((0, 0, 1), (0, True, 1)),
            ((0, 0, 1), (0, 1, True)),
        ):
            with self.subTest(way=wrong):
                self.assertIsNone(number_of(chart, wrong))

    def test_states_that_lead_nowhere(self):
        chart = Map(Island(("A.B.",)), "A", (1,), [("walk", 0, 3), ("near", "B", 0)])
        self.assertEqual(list(ways(chart)), [((0, 0, 1), (0, 2, 1), (0, 2, 1))])
        self.assertIsNone(number_of(chart, ((0, 0, 1), (0, 1, 1), (0, 1, 1))))
        self.assertEqual(number_of(chart, ((0, 0, 1), (0, 2, 1), (0, 2, 1))), 0)


class Ends(unittest.TestCase):
    def test_cells_where_several_ways_end(self):
        chart = Map(Island(("A...",)), "A", (1,), [("walk", 0, 2), ("walk", 0, 1), ("turn", (0, 2))])
        self.assertEqual(list(weights(chart).items()), [((0, 0), 2), ((0, 1), 4), ((0, 2), 4), ((0, 3), 2)])
        self.assertEqual(likeliest(chart), [(0, 1), (0, 2)])
        self.assertEqual(chance(chart, (0, 0)), (1, 6))
        self.assertEqual(chance(chart, (0, 1)), (1, 3))

    def test_cells_ascend(self):
        chart = Map(ISLAND, "AB", ALL_FACINGS, [("walk", 0, 2)])
        told = [((0, 0), 2), ((0, 1), 1), ((0, 2), 4), ((1, 0), 1), ((1, 2), 1), ((2, 0), 4), ((2, 1), 1), ((2, 2), 2)]
        self.assertEqual(list(weights(chart).items()), told)
        self.assertEqual(likeliest(chart), [(0, 2), (2, 0)])

    def test_one_likeliest(self):
        chart = Map(Island(("A...",)), "A", (1, 3), [("walk", 0, 1)])
        self.assertEqual(likeliest(chart), [(0, 0)])
        self.assertEqual(chance(chart, (0, 0)), (2, 3))
        self.assertEqual(chance(chart, (0, 1)), (1, 3))
        self.assertEqual(chance(chart, (0, 2)), (0, 1))

    def test_certainly_and_never(self):
        chart = Map(ISLAND, "A", (1, 2, 3), [("near", "A", 0)])
        self.assertEqual(chance(chart, (0, 2)), (1, 1))
        self.assertEqual(chance(chart, (2, 0)), (0, 1))
        self.assertEqual(weights(chart), {(0, 2): 3})
        self.assertEqual(likeliest(chart), [(0, 2)])

    def test_without_instructions(self):
        chart = Map(ISLAND, "AB", (0, 3), [])
        self.assertEqual(list(weights(chart).items()), [((0, 2), 2), ((2, 0), 2)])
        self.assertEqual(likeliest(chart), [(0, 2), (2, 0)])
        self.assertEqual(chance(chart, (2, 0)), (1, 2))

    def test_against_all_ways_one_by_one(self):
        for chart in LEADING:
            found = brute_weights(chart)
            count = sum(found.values())
            self.assertEqual(list(weights(chart).items()), list(found.items()))
            self.assertEqual(likeliest(chart), [cell for cell in found if found[cell] == max(found.values())])
            for cell in LETTERED.cells:
                with self.subTest(chart=chart.instructions, cell=cell):
                    part, whole = chance(chart, cell)
                    self.assertEqual(part * count, found.get(cell, 0) * whole)
                    self.assertEqual(math.gcd(part, whole), 1)

    def test_no_way(self):
        for chart in (NOWHERE, WITHOUT_BEGINNING):
            with self.subTest(chart=chart.instructions):
                self.assertEqual(weights(chart), {})
                raised(NoWay, likeliest, chart)
                for cell in ISLAND.cells:
                    raised(NoWay, chance, chart, cell)

    def test_unknown_cells(self):
        for chart in (Map(ISLAND, "A", (2, 3), [("walk", 0, 2)]), NOWHERE, WITHOUT_BEGINNING):
            for cell in unknown_cells(ISLAND):
                with self.subTest(chart=chart.instructions, cell=cell):
                    raised(UnknownCell, chance, chart, cell)

    def test_an_island_without_land(self):
        chart = Map(Island(("~~",)), ".", (0,), [])
        raised(UnknownCell, chance, chart, (0, 0))
        raised(NoWay, likeliest, chart)


class RepeatedCalls(unittest.TestCase):
    def test_repeated_calls(self):
        for chart in LEADING:
            for call in (way_count, weights, likeliest):
                check_repeated(self, call, chart)
            check_repeated(self, lambda told: list(ways(told)), chart)
            check_repeated(self, way_at, chart, 0)
            check_repeated(self, number_of, chart, way_at(chart, 0))
            check_repeated(self, chance, chart, (1, 2))

    def test_two_iterations_side_by_side(self):
        for one, other in zip(ways(CHARTS[1]), ways(CHARTS[1])):
            self.assertEqual(one, other)


if __name__ == "__main__":
    unittest.main()
