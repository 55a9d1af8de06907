"""Point 1: what holds for the whole program."""

import copy
import importlib
import inspect
import unittest

from helpers import ALL_FACINGS, CHARTS, LETTERED, check_repeated, in_order, raised, spoil
from oldmap.codec import encode_map
from oldmap.daybooks import Daybook
from oldmap.errors import (
    DecodeError, InvalidDig, InvalidGaps, InvalidIsland, InvalidMap, InvalidMaps, InvalidNumber, InvalidPool,
    InvalidRule, InvalidText, MapError, NoBeginning, NoWay, TooMany, UnknownCell, UnknownIndex,
)
from oldmap.islands import Island
from oldmap.maps import Map
from oldmap.notation import format_map
from oldmap.searches import Search
from oldmap.torn import mended
from oldmap.walkers import Walker
from oldmap.ways import way_at, ways
from test_layout import INTERFACE

CHART = CHARTS[1]
ISLAND = CHART.island
# A chart that leads nowhere, one that begins nowhere, and one with too many instructions.
LOST, NOWHERE = CHARTS[5], CHARTS[6]
LONG = Map(LETTERED, "A", ALL_FACINGS, [("turn", (0, 1))] * 20)
CELL, OTHER, WATER = (0, 0), (2, 2), (0, 3)
PLACES = (CELL, (1, 0), OTHER)
RULE = ("near", 2)
POOL = (("walk", 1, 1), ("turn", (1, 2)))
TEXT = format_map(CHART)

# For each function of the interface: arguments with which it returns something.
GOOD = {
    "begin_states": (CHART,), "final_states": (CHART,), "places": (CHART,), "impossible_at": (LOST,),
    "begins_to": (CHART, CELL), "ends_from": (CHART, (0, 0, 1)),
    "way_count": (CHART,), "ways": (CHART,), "way_at": (CHART, 5), "number_of": (CHART, way_at(CHART, 5)),
    "weights": (CHART,), "chance": (CHART, OTHER), "likeliest": (CHART,),
    "crossed": (CHART, OTHER), "crossings": (CHART,),
    "fewest_misread": (LOST,), "places_misread": (LOST, 2), "misread_to": (LOST, CELL),
    "needless": (CHART,), "sharpness": (CHART,), "leanest": (CHART,),
    "distance": (ISLAND, CELL, OTHER), "route": (ISLAND, CELL, OTHER),
    "least_walk": (ISLAND, CELL, [OTHER, (1, 0), OTHER]),
    "regions": (ISLAND,), "shore_cells": (ISLAND,), "needed_cells": (ISLAND, CELL, OTHER),
    "hint": (RULE, CELL, OTHER), "left_after": (ISLAND, PLACES, RULE, [(CELL, "near")]),
    "first_wrong": (ISLAND, PLACES, RULE, [(CELL, "found"), (OTHER, "near")]),
    "next_dig": (ISLAND, PLACES, RULE), "fewest_digs": (ISLAND, PLACES, RULE),
    "dig_walk": (ISLAND, CELL, PLACES), "weighed_walk": (ISLAND, CELL, {OTHER: 3, (1, 0): 1}),
    "mended": (CHART, (0, 3), POOL), "torn_places": (CHART, (0, 3), POOL), "least_mending": (CHART, (0, 3), POOL, CELL),
    "exchanged": (CHART, 0, 2), "leading_swaps": (CHART,), "misread_turns": (CHART,),
    "common_places": ([CHART, CHARTS[3]],), "joint_weights": ([CHART, CHARTS[3]],),
    "most_agreeing": ([CHART, CHARTS[2], LOST],), "odd_one_out": ([CHART, LOST],),
    "states_after_rounds": (CHART, 10 ** 18), "first_round": (CHART, OTHER), "round_ways": (CHART, 60),
    "stays": (CHART,),
    "format_map": (CHART,), "parse_map": (TEXT,),
    "picture": (CHART,), "crossed_picture": (CHART,), "digs_picture": (ISLAND, PLACES, [(CELL, "near")]),
    "encode_map": (CHART,), "decode_map": (encode_map(CHART),),
}

# For each function that can raise an error: arguments with which it does, and the error.
BAD = [
    ("begins_to", (CHART, WATER), UnknownCell), ("way_at", (CHART, -1), InvalidNumber),
    ("chance", (LOST, WATER), UnknownCell), ("chance", (LOST, CELL), NoWay), ("likeliest", (LOST,), NoWay),
    ("crossed", (LOST, WATER), UnknownCell), ("crossed", (LOST, CELL), NoWay), ("crossings", (LOST,), NoWay),
    ("fewest_misread", (NOWHERE,), NoBeginning), ("places_misread", (NOWHERE, 21), InvalidNumber),
    ("places_misread", (NOWHERE, 1), NoBeginning), ("misread_to", (NOWHERE, WATER), UnknownCell),
    ("misread_to", (NOWHERE, CELL), NoBeginning), ("leanest", (LONG,), TooMany),
    ("distance", (ISLAND, CELL, WATER), UnknownCell), ("route", (ISLAND, WATER, CELL), UnknownCell),
    ("least_walk", (ISLAND, WATER, ISLAND.cells), UnknownCell), ("least_walk", (ISLAND, CELL, ISLAND.cells), TooMany),
    ("needed_cells", (ISLAND, CELL, (9, 9)), UnknownCell), ("hint", (("near", 0), CELL, OTHER), InvalidRule),
    ("left_after", (ISLAND, PLACES, RULE, [(CELL, "north")]), InvalidDig),
    ("first_wrong", (ISLAND, PLACES, ("near", 0), [(WATER, "north")]), InvalidRule),
    ("next_dig", (ISLAND, (WATER,), ("near", 0)), UnknownCell),
    ("fewest_digs", (ISLAND, tuple(ISLAND.cells), RULE), TooMany),
    ("dig_walk", (ISLAND, WATER, PLACES), UnknownCell), ("weighed_walk", (ISLAND, CELL, {OTHER: 0}), InvalidNumber),
    ("torn_places", (CHART, (3, 0), (("turn", ()),)), InvalidGaps),
    ("least_mending", (CHART, (0, 3), (("turn", ()),), WATER), InvalidPool),
    ("exchanged", (CHART, 1, 1), UnknownIndex), ("common_places", ([CHART],), InvalidMaps),
    ("joint_weights", ([CHART] * 7,), InvalidMaps), ("most_agreeing", ([],), InvalidMaps),
    ("odd_one_out", ([CHART, CHART.turned()],), InvalidMaps),
    ("states_after_rounds", (CHART, 10 ** 18 + 1), InvalidNumber), ("first_round", (CHART, WATER), UnknownCell),
    ("round_ways", (CHART, 61), InvalidNumber), ("parse_map", ("island",), InvalidText),
    ("parse_map", (TEXT.replace("turn 1 3", "turn 3 1"),), InvalidMap), ("crossed_picture", (LOST,), NoWay),
    ("digs_picture", (ISLAND, PLACES, [(WATER, "")]), UnknownCell), ("decode_map", ([79, 1],), DecodeError),
]


def functions():
    """All functions of the interface, by their names."""
    found = {}
    for file, names in INTERFACE.items():
        for name in names:
            told = getattr(importlib.import_module(file), name)
            if not inspect.isclass(told):
                found[name] = told
    return found


def values_of(call):
    """A function that returns what a call returns, or the list of what it yields."""
    def listed(*told):
        returned = call(*told)
        return list(returned) if inspect.isgenerator(returned) else returned
    return listed


class Functions(unittest.TestCase):
    def test_each_is_called(self):
        self.assertEqual(sorted(functions()), sorted(GOOD))

    def test_repeated_calls(self):
        for name, call in functions().items():
            with self.subTest(name=name):
                check_repeated(self, values_of(call), *GOOD[name])

    def test_calls_between_others(self):
        calls = functions()
        first = {name: copy.deepcopy(in_order(values_of(calls[name])(*told))) for name, told in GOOD.items()}
        for name in reversed(sorted(GOOD)):
            with self.subTest(name=name):
                self.assertEqual(in_order(values_of(calls[name])(*GOOD[name])), first[name])

    def test_errors(self):
        calls = functions()
        for name, told, kind in BAD:
            with self.subTest(name=name, kind=kind.__name__):
                kept = copy.deepcopy(told)
                one, other = raised(kind, calls[name], *told), raised(kind, calls[name], *told)
                self.assertIsInstance(one, MapError)
                self.assertEqual(vars(one), vars(other))
                self.assertEqual(told, kept)
                # A call that raises an error changes nothing.
                check_repeated(self, values_of(calls[name]), *GOOD[name])

    def test_generators(self):
        for told in ((CHART, (0, 9), POOL), (CHART, (2, 1), POOL)):
            generator = mended(*told)
            raised(InvalidGaps, next, generator)
        generator = mended(CHART, (0,), (("walk", 2, 1),))
        raised(InvalidPool, next, generator)
        for chart in (LOST, NOWHERE):
            self.assertEqual(list(ways(chart)), [])
        self.assertTrue(inspect.isgenerator(ways(CHART)))
        self.assertTrue(inspect.isgenerator(mended(CHART, (), ())))

    def test_two_iterations_at_once(self):
        one, other = ways(CHART), ways(CHART)
        for way in one:
            self.assertEqual(next(other), way)
        one, other = mended(CHART, (0, 2), POOL), mended(CHART, (0, 2), POOL)
        for told in one:
            self.assertEqual(next(other), told)


class Objects(unittest.TestCase):
    def members(self, made):
        """All that an object tells without arguments, of its properties and of some methods."""
        names = [name for name, value in vars(made.__class__).items() if isinstance(value, property)]
        names += [name for name in ("states_now", "begins_now", "ends_now") if hasattr(made, name)]
        told = {name: getattr(made, name) for name in sorted(names)}
        return {name: value() if inspect.ismethod(value) else value for name, value in told.items()}

    def test_members_can_be_changed_by_the_caller(self):
        walker = Walker(CHART)
        walker.step()
        walker.missed((CELL,))
        search = Search.replay(CHART, RULE, CELL, [("mark", "a"), ("dig", "near"), ("walk", OTHER)])
        book = Daybook(TEXT + "\nsearch near 2 0 0\ndig near\nplaces")
        for made in (ISLAND, CHART, walker, search, book):
            with self.subTest(kind=made.__class__.__name__):
                kept = copy.deepcopy(self.members(made))
                for told in self.members(made).values():
                    spoil(told)
                self.assertEqual(self.members(made), kept)

    def test_arguments_can_be_changed_by_the_caller(self):
        instructions, indexes = [("walk", 1, 1), ("turn", (1,))], [0]
        chart = Map(ISLAND, "A", (1,), instructions)
        more, other = chart + instructions, chart.with_instructions(instructions)
        without = chart.without(indexes)
        operations = [("dig", "far"), ("mark", "a"), ("undo",)]
        search = Search.replay(Map(ISLAND, "ACP", (0,), []), RULE, CELL, operations)
        search.apply_all(operations)
        spoil(instructions)
        spoil(indexes)
        spoil(operations)
        self.assertEqual(chart.instructions, (("walk", 1, 1), ("turn", (1,))))
        self.assertEqual(more.instructions, chart.instructions * 2)
        self.assertEqual([other, without.instructions], [chart, (("turn", (1,)),)])
        self.assertEqual(search.history, [("dig", "far"), ("dig", "far")])
        self.assertIs(search.redo(), True)

    def test_operations_of_charts_change_nothing(self):
        kept = (CHART.signs, CHART.facings, CHART.instructions, CHART.island.rows)
        raised(InvalidMap, CHART.with_instructions, [("turn", ())])
        raised(InvalidMap, lambda: CHART + [("walk", 2, 1)])
        raised(UnknownCell, lambda: ISLAND[(99, 0)])
        for made in (CHART + [("walk", 1, 1)], CHART.until(1), CHART.without([0]), CHART.turned(), ISLAND.turned()):
            self.assertIsNot(made, CHART)
        self.assertEqual((CHART.signs, CHART.facings, CHART.instructions, CHART.island.rows), kept)

    def test_errors_of_constructors(self):
        raised(InvalidIsland, Island, ("..", "."))
        raised(InvalidMap, Map, ISLAND, "A", (), [])
        raised(NoBeginning, Walker, NOWHERE)
        raised(NoWay, Search, LOST, RULE, CELL)


if __name__ == "__main__":
    unittest.main()
