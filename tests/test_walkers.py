"""Point 24: somebody who walks."""

import itertools
import unittest

from helpers import ALL_FACINGS, CHARTS, LEADING, LETTERED, in_order, raised, single_steps, spoil, unknown_cells
from oldmap.errors import NoBeginning, NoInstruction, NoWay, UnknownCell
from oldmap.following import begin_states, final_states, places
from oldmap.islands import Island
from oldmap.maps import Map
from oldmap.walkers import Walker

ROW = Island(("ABCDEF",))
CHART = Map(ROW, "AC", (1, 3), [("walk", 0, 2), ("turn", (0, 2)), ("walk", 1, 1)])


def state_of(walker):
    """All that a walker tells."""
    return [walker.done, walker.records, walker.states_now(), walker.begins_now(), walker.ends_now()]


class Brute:
    """A walker by the list of all beginnings of ways."""

    def __init__(self, chart, steps):
        self.steps = steps
        self.paths = [[state] for state in begin_states(chart)]
        self.done = 0
        self.records = []

    def behind(self, paths, number):
        return [path + [state] for path in paths for state in self.steps[number][path[-1]]]

    def remain(self, paths):
        if paths:
            self.paths = paths
            return len({path[-1] for path in paths})
        return "NoWay"

    def step(self):
        if self.done == len(self.steps):
            return "NoInstruction"
        told = self.remain(self.behind(self.paths, self.done))
        self.done += 0 if told == "NoWay" else 1
        return told

    def look(self, word, cells):
        told = self.remain([path for path in self.paths if (path[-1][:2] in cells) == (word == "seen")])
        if told != "NoWay":
            self.records.append((self.done, word, cells))
        return told

    def told(self):
        paths = self.paths
        for number in range(self.done, len(self.steps)):
            paths = self.behind(paths, number)
        ends = sorted({path[-1][:2] for path in paths})
        now = sorted({path[-1] for path in self.paths})
        return [self.done, self.records, now, sorted({path[0] for path in self.paths}), ends]


def outcome(call, *told):
    """What a call returns, or the name of the error that it raises."""
    try:
        return call(*told)
    except (NoWay, NoInstruction, UnknownCell) as error:
        return error.__class__.__name__


class Walkers(unittest.TestCase):
    def unchanged(self, walker, kind, call, *told):
        """Check that a call raises an error and changes nothing."""
        before = state_of(walker)
        raised(kind, call, *told)
        self.assertEqual(state_of(walker), before)

    def test_at_the_beginning(self):
        for chart in CHARTS[:6]:
            walker = Walker(chart)
            begins = begin_states(chart)
            self.assertEqual(state_of(walker), [0, [], begins, begins, places(chart)])

    def test_a_chart_that_begins_nowhere(self):
        raised(NoBeginning, Walker, CHARTS[6])
        raised(NoBeginning, Walker, Map(ROW, ".", (0,), []))
        raised(NoBeginning, Walker, Map(Island(("~",)), ".A", (0,), [("walk", 0, 1)]))

    def test_by_hand(self):
        walker = Walker(CHART)
        self.assertEqual(walker.step(), 8)
        self.assertEqual(walker.states_now(), [
            (0, 0, 1), (0, 0, 3), (0, 1, 1), (0, 1, 3), (0, 2, 1), (0, 2, 3), (0, 3, 1), (0, 4, 1)
        ])
        self.assertEqual(walker.seen(((0, 2), (0, 3))), 3)
        self.assertEqual(walker.begins_now(), [(0, 0, 1), (0, 2, 1), (0, 2, 3)])
        self.assertEqual(walker.missed(((0, 3),)), 2)
        self.assertEqual(walker.begins_now(), [(0, 0, 1), (0, 2, 1), (0, 2, 3)])
        self.assertEqual(walker.ends_now(), [(0, 1), (0, 3)])
        self.assertEqual(walker.step(), 2)
        self.assertEqual(walker.states_now(), [(0, 2, 1), (0, 2, 3)])
        self.assertEqual(walker.step(), 2)
        self.assertEqual(walker.seen(((0, 1),)), 1)
        self.assertEqual(walker.states_now(), [(0, 1, 3)])
        self.assertEqual(walker.ends_now(), [(0, 1)])
        self.assertEqual(walker.done, 3)
        self.assertEqual(walker.records, [
            (1, "seen", ((0, 2), (0, 3))), (1, "missed", ((0, 3),)), (3, "seen", ((0, 1),))
        ])

    def test_beginnings_from_which_one_can_not_have_come(self):
        walker = Walker(Map(ROW, "ABCF", (1,), [("walk", 1, 2), ("walk", 1, 1)]))
        self.assertEqual(walker.begins_now(), [(0, 0, 1), (0, 1, 1), (0, 2, 1), (0, 5, 1)])
        self.assertEqual(walker.step(), 4)
        self.assertEqual(walker.begins_now(), [(0, 0, 1), (0, 1, 1), (0, 2, 1)])
        self.assertEqual(walker.missed(((0, 2), (0, 3))), 2)
        self.assertEqual(walker.begins_now(), [(0, 0, 1), (0, 2, 1)])
        self.assertEqual(walker.seen(((0, 4), (0, 5))), 1)
        self.assertEqual(walker.begins_now(), [(0, 2, 1)])

    def test_all_steps_and_one_more(self):
        for chart in LEADING:
            walker = Walker(chart)
            for number in range(len(chart)):
                self.assertEqual(walker.done, number)
                self.assertEqual(walker.step(), len(final_states(chart.until(number + 1))))
            self.assertEqual(walker.done, len(chart))
            self.assertEqual(walker.states_now(), final_states(chart))
            self.assertEqual(walker.ends_now(), places(chart))
            for _ in range(2):
                self.unchanged(walker, NoInstruction, walker.step)

    def test_no_instruction_ahead_of_no_way(self):
        self.unchanged(Walker(CHARTS[0]), NoInstruction, Walker(CHARTS[0]).step)
        walker = Walker(Map(ROW, "A", (3,), []))
        self.unchanged(walker, NoInstruction, walker.step)
        walker = Walker(Map(ROW, "A", (1,), [("walk", 5, 5)]))
        walker.step()
        self.unchanged(walker, NoInstruction, walker.step)

    def test_a_step_that_leads_nowhere(self):
        walker = Walker(Map(ROW, "A", (1,), [("walk", 3, 5), ("walk", 2, 2), ("walk", 1, 1), ("turn", (0,))]))
        self.assertEqual(walker.ends_now(), [])
        walker.step()
        self.assertEqual(walker.step(), 1)
        self.assertEqual(walker.ends_now(), [])
        for _ in range(3):
            self.unchanged(walker, NoWay, walker.step)
        self.assertEqual([walker.done, walker.states_now()], [2, [(0, 5, 1)]])
        self.assertEqual(walker.seen(((0, 5),)), 1)

    def test_seen_and_missed_with_no_cells(self):
        walker = Walker(CHART)
        self.unchanged(walker, NoWay, walker.seen, ())
        self.assertEqual(walker.missed(()), 4)
        self.assertEqual(walker.records, [(0, "missed", ())])

    def test_seen_and_missed_with_all_cells(self):
        walker = Walker(CHART)
        everywhere = tuple(ROW.cells)
        self.unchanged(walker, NoWay, walker.missed, everywhere)
        self.assertEqual(walker.seen(everywhere), 4)
        self.assertEqual(walker.records, [(0, "seen", everywhere)])

    def test_seen_and_missed_where_nobody_is(self):
        walker = Walker(CHART)
        self.unchanged(walker, NoWay, walker.seen, ((0, 1), (0, 5)))
        self.unchanged(walker, NoWay, walker.missed, ((0, 0), (0, 2)))
        self.assertEqual(walker.missed(((0, 1), (0, 5))), 4)
        self.assertEqual(walker.seen(((0, 0), (0, 2))), 4)

    def test_cells_as_they_were_passed(self):
        walker = Walker(CHART)
        twice, backward = ((0, 0), (0, 0), (0, 4)), ((0, 5), (0, 1), (0, 5), (0, 0))
        self.assertEqual(walker.seen(twice), 2)
        walker.step()
        self.assertEqual(walker.missed(backward), 1)
        self.assertEqual(walker.records, [(0, "seen", twice), (1, "missed", backward)])

    def test_the_same_told_twice(self):
        walker = Walker(CHART)
        for _ in range(3):
            self.assertEqual(walker.seen(((0, 0),)), 2)
        self.unchanged(walker, NoWay, walker.missed, ((0, 0),))
        self.assertEqual(walker.records, [(0, "seen", ((0, 0),))] * 3)

    def test_unknown_cells(self):
        for cell in unknown_cells(LETTERED):
            walker = Walker(CHARTS[1])
            walker.step()
            for cells in ((cell,), ((0, 0), cell), (cell, (0, 0)), tuple(LETTERED.cells) + (cell,)):
                self.unchanged(walker, UnknownCell, walker.seen, cells)
                self.unchanged(walker, UnknownCell, walker.missed, cells)

    def test_unknown_cells_ahead_of_no_way(self):
        walker = Walker(CHART)
        self.unchanged(walker, UnknownCell, walker.seen, ((0, 1), (0, 6)))
        self.unchanged(walker, UnknownCell, walker.missed, tuple(ROW.cells) + ((0, 6),))

    def test_a_walker_goes_on_behind_an_error(self):
        walker = Walker(CHART)
        walker.step()
        raised(NoWay, walker.seen, ((0, 5),))
        raised(UnknownCell, walker.missed, ((1, 0),))
        other = Walker(CHART)
        other.step()
        self.assertEqual(state_of(walker), state_of(other))
        self.assertEqual(walker.step(), other.step())
        self.assertEqual(state_of(walker), state_of(other))

    def test_walkers_of_one_chart_know_nothing_of_each_other(self):
        one, other = Walker(CHART), Walker(CHART)
        one.step()
        one.seen(((0, 3),))
        self.assertEqual(state_of(other), state_of(Walker(CHART)))

    def test_returned_lists_can_be_changed(self):
        walker = Walker(CHART)
        walker.step()
        walker.missed(((0, 0),))
        kept = state_of(walker)
        for told in state_of(walker):
            spoil(told)
        self.assertEqual(state_of(walker), kept)
        walker.records.clear()
        self.assertEqual(state_of(walker), kept)
        self.assertEqual(walker.step(), 8)

    def test_against_the_list_of_all_ways(self):
        cells = LETTERED.cells
        looks = [tuple(cells[::2]), tuple(cells[3:12]), (cells[4], cells[9], cells[12])]
        calls = [("step",)] + [(word, told) for word in ("seen", "missed") for told in looks]
        for chart in LEADING[1:]:
            steps = [single_steps(LETTERED, instruction) for instruction in chart.instructions]
            for first, second, third in itertools.product(calls, repeat=3):
                walker, brute = Walker(chart), Brute(chart, steps)
                for word, *told in (first, second, ("step",), third):
                    expected = brute.step() if word == "step" else brute.look(word, *told)
                    self.assertEqual(outcome(getattr(walker, word), *told), expected)
                self.assertEqual(state_of(walker), brute.told())

    def test_twenty_instructions_on_a_great_island(self):
        island = Island(("............",) * 12)
        walker = Walker(Map(island, ".", ALL_FACINGS, [("walk", 0, 20), ("turn", (0, 1, 2, 3))] * 10))
        begins = walker.begins_now()[4:]
        for _ in range(10):
            self.assertEqual(walker.missed(((0, 0),)), 572)
            # To the corner one comes facing north and west only.
            self.assertEqual(walker.step(), 574)
            self.assertEqual(walker.step(), 576)
        self.assertEqual(walker.begins_now(), begins)
        self.assertEqual(walker.ends_now(), island.cells)

    def test_repeated_calls(self):
        for chart in LEADING:
            told = []
            for _ in range(2):
                walker = Walker(chart)
                counts = [walker.missed(((0, 0),))] + [walker.step() for _ in chart.instructions]
                told.append([counts, [in_order(part) for part in state_of(walker)]])
            self.assertEqual(told[0], told[1])
            self.assertEqual(state_of(walker), state_of(walker))


if __name__ == "__main__":
    unittest.main()
