"""Points 20 and 21: torn charts, exchanged instructions and misread turns."""

import itertools
import unittest

from helpers import ALL_FACINGS, CHARTS, LETTERED, check_repeated, raised, unknown_cells
from oldmap.errors import InvalidGaps, InvalidPool, UnknownCell, UnknownIndex
from oldmap.following import places
from oldmap.islands import Island
from oldmap.maps import Map
from oldmap.torn import exchanged, leading_swaps, least_mending, mended, misread_turns, torn_places

ISLAND = Island(("..A", ".~B"))
ROW = Island(("A" + "." * 11,))
WIDE = Island(("A" + "." * 11,) + ("." * 12,) * 11)

PACE, RIGHT, NEVER = ("walk", 1, 1), ("turn", (1,)), ("until", "Z")
POOL = (PACE, RIGHT, ("walk", 2, 2), ("near", "A", 1), ("turn", (0, 2)), ("shore", 3, 1, 2))
WRONG_INSTRUCTIONS = (("turn", ()), ("walk", 2, 1), ("until", "~"), ("near", "A", 23), ("shore", 2, 0, 1), ("swim", 1))
WRONG_GAPS = (-1, 3, 4, 99, True, False)

# Two instructions, so that there can be gaps at 0, 1 and 2.
TWO = Map(ISLAND, "A", (3,), [PACE, ("turn", (3,))])
WITHOUT_BEGINNING = Map(ISLAND, "C", ALL_FACINGS, [PACE, RIGHT])


def brute_mended(chart, gaps, pool):
    """The list of all choices and charts, by putting instructions in from the last gap to the first."""
    found = []
    for choices in itertools.product([None] + list(range(len(pool))), repeat=len(gaps)):
        instructions = list(chart.instructions)
        for gap, choice in list(zip(gaps, choices))[::-1]:
            if choice is not None:
                instructions.insert(gap, pool[choice])
        found.append((choices, Map(chart.island, chart.signs, chart.facings, instructions)))
    return found


class Mended(unittest.TestCase):
    def told(self, chart, gaps, pool):
        return [(choices, other.instructions) for choices, other in mended(chart, gaps, pool)]

    def test_no_gaps(self):
        for pool in ((), POOL):
            self.assertEqual(list(mended(TWO, (), pool)), [((), TWO)])

    def test_one_gap(self):
        first, second = TWO.instructions
        for gap, whole in ((0, (RIGHT, first, second)), (1, (first, RIGHT, second)), (2, (first, second, RIGHT))):
            with self.subTest(gap=gap):
                expected = [((None,), (first, second)), ((0,), whole)]
                self.assertEqual(self.told(TWO, (gap,), (RIGHT,)), expected)

    def test_three_gaps(self):
        first, second = TWO.instructions
        self.assertEqual(self.told(TWO, (0, 1, 2), (RIGHT,)), [
            ((None, None, None), (first, second)),
            ((None, None, 0), (first, second, RIGHT)),
            ((None, 0, None), (first, RIGHT, second)),
            ((None, 0, 0), (first, RIGHT, second, RIGHT)),
            ((0, None, None), (RIGHT, first, second)),
            ((0, None, 0), (RIGHT, first, second, RIGHT)),
            ((0, 0, None), (RIGHT, first, RIGHT, second)),
            ((0, 0, 0), (RIGHT, first, RIGHT, second, RIGHT)),
        ])

    def test_an_empty_pool(self):
        self.assertEqual(list(mended(TWO, (0, 1, 2), ())), [((None, None, None), TWO)])
        self.assertEqual(list(mended(TWO, (1,), ())), [((None,), TWO)])

    def test_a_pool_of_six(self):
        choices = [told for told, _ in mended(TWO, (1,), POOL)]
        self.assertEqual(choices, [(None,), (0,), (1,), (2,), (3,), (4,), (5,)])
        found = list(mended(TWO, (0, 1, 2), POOL))
        self.assertEqual(len(found), 343)
        self.assertEqual(found, brute_mended(TWO, (0, 1, 2), POOL))

    def test_the_order_of_the_choices(self):
        choices = [told for told, _ in mended(TWO, (0, 2), (PACE, PACE))]
        self.assertEqual(choices, [
            (None, None), (None, 0), (None, 1), (0, None), (0, 0), (0, 1), (1, None), (1, 0), (1, 1)
        ])

    def test_charts_without_instructions(self):
        chart = Map(ISLAND, "AB", (1, 2), [])
        self.assertEqual(self.told(chart, (0,), (PACE, RIGHT)), [((None,), ()), ((0,), (PACE,)), ((1,), (RIGHT,))])

    def test_charts_keep_their_beginning(self):
        for _, chart in mended(TWO, (1,), POOL):
            self.assertIsInstance(chart, Map)
            self.assertEqual((chart.island, chart.signs, chart.facings), (ISLAND, "A", (3,)))

    def test_against_charts_put_together_otherwise(self):
        for chart in CHARTS:
            for gaps in ((0,), (len(chart),), tuple(range(len(chart) + 1))[:3], tuple(range(len(chart) + 1))[-2:]):
                with self.subTest(chart=chart.instructions, gaps=gaps):
                    self.assertEqual(list(mended(chart, gaps, POOL[:3])), brute_mended(chart, gaps, POOL[:3]))

    def test_errors_are_raised_when_the_iteration_begins(self):
        wrong_pool = (("turn", ()),)
        for gaps, pool, kind in (((3,), (), InvalidGaps), ((0,), wrong_pool, InvalidPool), ((0, 0), (), InvalidGaps)):
            told = mended(TWO, gaps, pool)
            raised(kind, next, told)
        told = mended(Map(ISLAND, "A", (1,), [PACE] * 20), (0,), ())
        raised(InvalidGaps, next, told)

    def test_many_instructions_with_gaps(self):
        seventeen = Map(ROW, "A", (1,), [PACE] * 17)
        charts = [chart for _, chart in mended(seventeen, (0, 9, 17), (RIGHT,))]
        self.assertEqual([len(chart) for chart in charts], [17, 18, 18, 19, 18, 19, 19, 20])
        self.assertEqual(charts[-1].instructions, (RIGHT,) + (PACE,) * 9 + (RIGHT,) + (PACE,) * 8 + (RIGHT,))


class TornPlaces(unittest.TestCase):
    def test_by_hand(self):
        chart = Map(ROW, "A", (1,), [PACE, PACE])
        self.assertEqual(torn_places(chart, (), POOL), [(0, 2)])
        self.assertEqual(torn_places(chart, (1,), ()), [(0, 2)])
        self.assertEqual(torn_places(chart, (1,), (PACE,)), [(0, 2), (0, 3)])
        reached = [(0, at) for at in range(2, 12) if at != 10]
        self.assertEqual(torn_places(chart, (0, 1, 2), (PACE, ("walk", 3, 3))), reached)
        self.assertEqual(torn_places(chart, (1,), (("turn", (2,)), NEVER)), [(0, 0), (0, 2)])

    def test_charts_that_lead_somewhere_only_if_mended(self):
        chart = Map(ISLAND, "A", (0,), [PACE])
        self.assertEqual(torn_places(chart, (1,), POOL), [])
        self.assertEqual(torn_places(chart, (0,), (("turn", (3,)),)), [(0, 1)])

    def test_charts_that_begin_nowhere(self):
        self.assertEqual(torn_places(WITHOUT_BEGINNING, (0, 1, 2), POOL), [])

    def test_many_instructions(self):
        chart = Map(WIDE, ".A", ALL_FACINGS, [("walk", 0, 11), ("turn", ALL_FACINGS)] * 8 + [("near", "A", 2)])
        self.assertEqual(torn_places(chart, (0, 8, 17), POOL), [cell for cell in WIDE.cells if sum(cell) <= 4])

    def test_against_all_charts(self):
        for chart in CHARTS:
            for gaps in ((0,), (len(chart),), tuple(range(len(chart) + 1))[:3], tuple(range(len(chart) + 1))[-2:]):
                with self.subTest(chart=chart.instructions, gaps=gaps):
                    pool = (("turn", (1, 2)), ("until", "FHJ"), ("walk", 1, 2))
                    expected = {cell for _, other in brute_mended(chart, gaps, pool) for cell in places(other)}
                    self.assertEqual(torn_places(chart, gaps, pool), sorted(expected))


class LeastMending(unittest.TestCase):
    def test_the_fewest_instructions_put_in(self):
        chart = Map(ROW, "A", (1,), [PACE, PACE])
        pool = (PACE, ("walk", 2, 2), ("walk", 3, 3))
        self.assertEqual(least_mending(chart, (0, 1, 2), pool, (0, 2)), (None, None, None))
        self.assertEqual(least_mending(chart, (0, 1, 2), pool, (0, 3)), (None, None, 0))
        self.assertEqual(least_mending(chart, (0, 1, 2), pool, (0, 5)), (None, None, 2))
        self.assertEqual(least_mending(chart, (0, 1, 2), pool, (0, 6)), (None, 0, 2))
        self.assertEqual(least_mending(chart, (0, 1, 2), pool, (0, 11)), (2, 2, 2))

    def test_the_fewest_ahead_of_the_first(self):
        chart = Map(Island(("...", ".A.", "...")), "A", (1,), [RIGHT, ("turn", (0,))])
        # By (None, 1, 0), too, but that is one instruction more.
        self.assertEqual(least_mending(chart, (0, 1, 2), (PACE, ("turn", (3,))), (1, 2)), (0, None, None))

    def test_the_first_of_several_choices(self):
        chart = Map(ROW, "A", (1,), [PACE])
        self.assertEqual(least_mending(chart, (0, 1), (PACE, PACE), (0, 2)), (None, 0))
        self.assertEqual(least_mending(chart, (0, 1), (RIGHT, PACE, PACE), (0, 2)), (None, 1))
        self.assertEqual(least_mending(chart, (0, 1), (("walk", 2, 2), PACE), (0, 4)), (0, 1))
        self.assertEqual(least_mending(chart, (0, 1), (PACE, ("walk", 2, 2)), (0, 4)), (0, 1))
        self.assertEqual(least_mending(chart, (0, 1), (PACE, ("walk", 2, 2), ("walk", 0, 3)), (0, 3)), (None, 1))

    def test_gaps_at_the_beginning_in_the_middle_and_at_the_end(self):
        island = Island(("A..", "...", "..."))
        chart = Map(island, "A", (1,), [PACE, PACE])
        pool = (("turn", (1,)), ("walk", 1, 1))
        for gaps, cell, choices in (
            ((0,), (2, 0), (0,)),
            ((1,), (1, 1), (0,)),
            ((2,), (0, 2), (None,)),
            ((0, 1), (1, 1), (None, 0)),
            ((0, 2), (2, 0), (0, None)),
        ):
            with self.subTest(gaps=gaps, cell=cell):
                self.assertEqual(least_mending(chart, gaps, pool, cell), choices)

    def test_no_gaps_and_an_empty_pool(self):
        self.assertEqual(least_mending(TWO, (), POOL, (0, 1)), ())
        self.assertIsNone(least_mending(TWO, (), POOL, (0, 0)))
        self.assertEqual(least_mending(TWO, (0, 2), (), (0, 1)), (None, None))
        self.assertIsNone(least_mending(TWO, (0, 2), (), (0, 0)))

    def test_a_cell_that_none_ends_at(self):
        self.assertIsNone(least_mending(TWO, (0, 1, 2), (RIGHT, NEVER), (1, 0)))
        self.assertIsNone(least_mending(WITHOUT_BEGINNING, (0, 1, 2), POOL, (0, 0)))

    def test_many_instructions(self):
        chart = Map(ROW, "A", (1,), [PACE] * 8 + [("turn", (0,))] * 9)
        self.assertEqual(least_mending(chart, (0, 8, 17), (("walk", 0, 1),), (0, 11)), (0, 0, 0))
        self.assertEqual(least_mending(chart, (0, 8, 17), (RIGHT, ("walk", 0, 3)), (0, 11)), (None, None, 1))
        self.assertEqual(least_mending(Map(ROW, "A", (1,), [PACE] * 11 + [RIGHT] * 9), (), (), (0, 11)), ())

    def test_against_all_charts(self):
        pool = (("turn", (1, 2)), ("until", "FHJ"), ("walk", 1, 2))
        for chart in CHARTS:
            for gaps in ((0,), (len(chart),), tuple(range(len(chart) + 1))[:3], tuple(range(len(chart) + 1))[-2:]):
                found = [(choices, places(other)) for choices, other in brute_mended(chart, gaps, pool)]
                for cell in LETTERED.cells:
                    with self.subTest(chart=chart.instructions, gaps=gaps, cell=cell):
                        good = [choices for choices, cells in found if cell in cells]
                        many = [len(choices) - choices.count(None) for choices in good]
                        expected = good[many.index(min(many))] if good else None
                        self.assertEqual(least_mending(chart, gaps, pool, cell), expected)


class TornErrors(unittest.TestCase):
    def fails(self, kind, index, chart, gaps, pool, cell=(0, 2)):
        for call, told in (
            (lambda *told: list(mended(*told)), (chart, gaps, pool)),
            (torn_places, (chart, gaps, pool)),
            (least_mending, (chart, gaps, pool, cell)),
        ):
            with self.subTest(call=call, gaps=gaps, pool=pool):
                self.assertEqual(raised(kind, call, *told).index, index)

    def test_gaps_out_of_range(self):
        for gap in WRONG_GAPS:
            self.fails(InvalidGaps, 0, TWO, (gap,), ())
            self.fails(InvalidGaps, 1, TWO, (0, gap), POOL)
            self.fails(InvalidGaps, 2, TWO, (0, 1, gap), POOL)
        self.fails(InvalidGaps, 0, Map(ISLAND, "A", (0,), []), (1,), ())

    def test_gaps_that_do_not_ascend(self):
        self.fails(InvalidGaps, 1, TWO, (1, 1), ())
        self.fails(InvalidGaps, 1, TWO, (2, 1), ())
        self.fails(InvalidGaps, 1, TWO, (2, 0, 1), POOL)
        self.fails(InvalidGaps, 2, TWO, (0, 2, 2), ())
        self.fails(InvalidGaps, 2, TWO, (0, 2, 1), ())
        self.fails(InvalidGaps, 0, TWO, (3, 0), ())

    def test_a_fourth_gap(self):
        chart = Map(ROW, "A", (1,), [PACE] * 5)
        self.fails(InvalidGaps, 3, chart, (0, 1, 2, 3), ())
        self.fails(InvalidGaps, 3, chart, (0, 1, 2, 3, 4), POOL)
        self.fails(InvalidGaps, 3, chart, (0, 1, 2, 99), POOL)
        self.fails(InvalidGaps, 2, chart, (0, 1, 1, 3), POOL)

    def test_instructions_that_cannot_be(self):
        for instruction in WRONG_INSTRUCTIONS:
            self.fails(InvalidPool, 0, TWO, (0,), (instruction,))
            self.fails(InvalidPool, 2, TWO, (), POOL[:2] + (instruction,) + POOL[2:])
            self.fails(InvalidPool, 5, TWO, (0, 1), POOL[:5] + (instruction, instruction))

    def test_a_seventh_instruction(self):
        self.fails(InvalidPool, 6, TWO, (0,), POOL + (PACE,))
        self.fails(InvalidPool, 6, TWO, (), POOL + (PACE, PACE))
        self.fails(InvalidPool, 6, TWO, (0,), POOL + (("turn", ()),))

    def test_more_than_twenty_together(self):
        for length, gaps in ((18, (0, 1, 2)), (18, (0, 9, 18)), (19, (0, 1)), (20, (0,)), (20, (20,)), (20, (0, 20))):
            chart = Map(ROW, "A", (1,), [PACE] * length)
            for pool in ((), (PACE,), POOL):
                self.fails(InvalidGaps, len(gaps), chart, gaps, pool)

    def test_twenty_together(self):
        for length, gaps in ((17, (0, 1, 17)), (18, (0, 1)), (19, (19,)), (20, ())):
            chart = Map(ROW, "A", (1,), [("turn", (0,))] * length)
            self.assertEqual(torn_places(chart, gaps, (PACE,)), [(0, at) for at in range(len(gaps) + 1)])
            self.assertEqual(len(list(mended(chart, gaps, (PACE,)))), 2 ** len(gaps))

    def test_errors_together_in_their_order(self):
        wrong_pool = (PACE, ("turn", ()))
        twenty = Map(ROW, "A", (1,), [PACE] * 20)
        self.fails(InvalidGaps, 1, TWO, (0, 0), wrong_pool)
        self.fails(InvalidGaps, 0, TWO, (-1,), POOL + (PACE,), (99, 99))
        self.fails(InvalidGaps, 0, twenty, (21,), wrong_pool)
        self.fails(InvalidGaps, 3, twenty, (0, 1, 2, 3), wrong_pool)
        self.fails(InvalidPool, 1, twenty, (0,), wrong_pool, (99, 99))
        self.fails(InvalidPool, 6, twenty, (0,), POOL + (PACE,))
        self.fails(InvalidGaps, 1, twenty, (0,), POOL, (99, 99))
        self.fails(InvalidGaps, 3, Map(ROW, "A", (1,), [PACE] * 18), (0, 1, 2), POOL, (1, 0))

    def test_unknown_cells_last(self):
        for cell in unknown_cells(ISLAND):
            with self.subTest(cell=cell):
                raised(UnknownCell, least_mending, TWO, (0,), (PACE,), cell)
                raised(UnknownCell, least_mending, TWO, (), (), cell)
                raised(UnknownCell, least_mending, WITHOUT_BEGINNING, (0, 2), POOL, cell)
                raised(InvalidGaps, least_mending, TWO, (3,), POOL, cell)
                raised(InvalidPool, least_mending, TWO, (0,), POOL * 2, cell)
                raised(InvalidGaps, least_mending, TWO + [RIGHT] * 18, (0,), POOL, cell)


class Exchanged(unittest.TestCase):
    def test_two_instructions(self):
        chart = Map(ISLAND, ".A", (0, 2), [PACE, RIGHT, NEVER])
        for one, other, instructions in (
            (0, 1, (RIGHT, PACE, NEVER)),
            (1, 0, (RIGHT, PACE, NEVER)),
            (0, 2, (NEVER, RIGHT, PACE)),
            (2, 1, (PACE, NEVER, RIGHT)),
        ):
            with self.subTest(one=one, other=other):
                self.assertEqual(exchanged(chart, one, other), Map(ISLAND, ".A", (0, 2), instructions))
        self.assertEqual(chart.instructions, (PACE, RIGHT, NEVER))

    def test_equal_instructions(self):
        chart = Map(ISLAND, "A", (0,), [PACE, RIGHT, PACE])
        self.assertEqual(exchanged(chart, 0, 2), chart)

    def test_unknown_indexes(self):
        chart = Map(ISLAND, "A", (0,), [PACE, RIGHT, NEVER])
        for wrong in (-1, -2, -3, 3, 4, 99, True, False):
            with self.subTest(index=wrong):
                for good in range(3):
                    raised(UnknownIndex, exchanged, chart, wrong, good)
                    raised(UnknownIndex, exchanged, chart, good, wrong)
                raised(UnknownIndex, exchanged, chart, wrong, wrong)
        for index in range(3):
            raised(UnknownIndex, exchanged, chart, index, index)
        raised(UnknownIndex, exchanged, Map(ISLAND, "A", (0,), []), 0, 1)
        raised(UnknownIndex, exchanged, Map(ISLAND, "A", (0,), [PACE]), 0, 0)


class LeadingSwaps(unittest.TestCase):
    def test_swaps_that_lead_somewhere(self):
        self.assertEqual(leading_swaps(Map(ISLAND, "A", (3,), [("until", "B"), ("turn", (3,))])), [(0, 1)])
        chart = Map(ISLAND, "A", (1,), [PACE, RIGHT, ("turn", (0,)), RIGHT])
        self.assertEqual(leading_swaps(chart), [(0, 1), (0, 2), (0, 3)])
        self.assertEqual(leading_swaps(Map(ISLAND, "A", (2,), [RIGHT] * 4)),
                         [(0, 1), (0, 2), (0, 3), (1, 2), (1, 3), (2, 3)])

    def test_swaps_of_a_chart_that_has_a_way(self):
        self.assertEqual(leading_swaps(Map(ISLAND, "A", (2,), [PACE, RIGHT, RIGHT])), [(0, 1), (1, 2)])

    def test_none(self):
        self.assertEqual(leading_swaps(Map(ISLAND, "A", (2,), [])), [])
        self.assertEqual(leading_swaps(Map(ISLAND, "A", (2,), [RIGHT])), [])
        self.assertEqual(leading_swaps(Map(ISLAND, "A", (2,), [NEVER, RIGHT, PACE])), [])

    def test_charts_that_begin_nowhere(self):
        self.assertEqual(leading_swaps(WITHOUT_BEGINNING), [])

    def test_twenty_instructions(self):
        chart = Map(ROW, "A", (1,), [PACE] * 11 + [("turn", (2,))] + [PACE] * 8)
        # As many paces lead back as lead on, or fewer: so the turn can also stand one place ahead.
        same = [(one, other) for one in range(20) for other in range(one + 1, 20) if 11 not in (one, other)]
        self.assertEqual(leading_swaps(chart), sorted(same + [(10, 11)]))

    def test_against_exchanged_charts(self):
        for chart in CHARTS:
            with self.subTest(chart=chart.instructions):
                pairs = itertools.combinations(range(len(chart)), 2)
                self.assertEqual(leading_swaps(chart), [pair for pair in pairs if places(exchanged(chart, *pair))])


class MisreadTurns(unittest.TestCase):
    def test_a_single_turn(self):
        self.assertEqual(misread_turns(Map(ISLAND, "A", (3,), [("turn", (0,)), ("until", "B")])), [(0, 3)])
        self.assertEqual(misread_turns(Map(ISLAND, "A", (2,), [("turn", (0,)), ("until", "B")])), [])
        self.assertEqual(misread_turns(Map(ISLAND, "A", (2,), [("turn", (2,)), ("walk", 1, 1)])), [(0, 0), (0, 1)])

    def test_several_turns(self):
        chart = Map(ISLAND, "A", (0,), [("turn", (1,)), ("walk", 1, 1), ("turn", (0, 2)), ("turn", (0, 3))])
        self.assertEqual(misread_turns(chart), [(0, 2), (0, 3)])
        self.assertEqual(misread_turns(chart.without([1])),
                         [(0, 0), (0, 2), (0, 3), (1, 1), (1, 3), (2, 1), (2, 2)])

    def test_turns_of_one_number_and_of_all_four(self):
        chart = Map(ISLAND, "A", (0,), [("turn", (0, 1, 2, 3)), ("turn", (2,)), ("turn", (0, 1, 3))])
        self.assertEqual(misread_turns(chart), [(1, 0), (1, 1), (1, 3), (2, 2)])
        self.assertEqual(misread_turns(Map(ISLAND, "A", (0,), [("turn", (0, 1, 2, 3))])), [])

    def test_no_turns(self):
        self.assertEqual(misread_turns(Map(ISLAND, "A", (0,), [])), [])
        self.assertEqual(misread_turns(Map(ISLAND, "A", (3,), [PACE, ("beside", 0, "."), ("toward", "A")])), [])

    def test_charts_that_begin_nowhere(self):
        self.assertEqual(misread_turns(WITHOUT_BEGINNING), [])
        self.assertEqual(misread_turns(Map(ISLAND, "C", (0,), [("turn", (0,))])), [])

    def test_twenty_instructions(self):
        chart = Map(ROW, "A", (1,), [("turn", (0,)), PACE] * 10)
        # Back one can go only so many paces as one went ahead.
        self.assertEqual(misread_turns(chart), [(10, 2), (12, 2), (14, 2), (16, 2), (18, 2)])

    def test_against_charts_with_other_turns(self):
        for chart in CHARTS:
            with self.subTest(chart=chart.instructions):
                expected = []
                for index, instruction in enumerate(chart.instructions):
                    for turns in range(4):
                        if instruction[0] == "turn" and turns not in instruction[1]:
                            other = list(chart.instructions)
                            other[index] = ("turn", (turns,))
                            if places(chart.with_instructions(other)):
                                expected.append((index, turns))
                self.assertEqual(misread_turns(chart), expected)


class RepeatedCalls(unittest.TestCase):
    def test_repeated_calls(self):
        for chart in CHARTS:
            check_repeated(self, lambda *told: list(mended(*told)), chart, (0,), POOL)
            check_repeated(self, torn_places, chart, (0,), POOL)
            check_repeated(self, least_mending, chart, (0,), POOL, (1, 2))
            check_repeated(self, leading_swaps, chart)
            check_repeated(self, misread_turns, chart)
        check_repeated(self, exchanged, TWO, 0, 1)

    def test_two_iterations_side_by_side(self):
        for one, other in zip(mended(TWO, (0, 1), POOL), mended(TWO, (0, 1), POOL)):
            self.assertEqual(one, other)


if __name__ == "__main__":
    unittest.main()
