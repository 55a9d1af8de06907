"""What several tests use."""

import copy

from oldmap.following import begin_states, final_states
from oldmap.islands import Island
from oldmap.maps import Map

ALL_FACINGS = (0, 1, 2, 3)

# Each cell has a letter of its own, so that a chart can begin in any single state.
LETTERED = Island(("ABC~D", "E~FGH", "IJKLM", "~NOP~"))

CHARTS = tuple(
    Map(LETTERED, signs, facings, instructions)
    for signs, facings, instructions in (
        ("AKP", (0, 1), []),
        ("AKP", ALL_FACINGS, [("walk", 0, 2), ("turn", (1, 3)), ("walk", 1, 2)]),
        ("CEM", ALL_FACINGS, [("toward", "DGI"), ("until", "FHJL"), ("beside", 1, "~"), ("turn", (0, 2))]),
        ("ABCDEFGHIJKLMNOP", ALL_FACINGS, [("shore", 3, 1, 3), ("near", "GO", 2), ("shore", 1, 0, 4)]),
        ("ABCDEFGHIJKLMNOP", (2,), [("near", "~", 1), ("walk", 1, 1)] * 3),
        ("J", (1,), [("walk", 3, 3), ("walk", 1, 1), ("turn", (0, 1))]),
        ("QRS", ALL_FACINGS, [("walk", 0, 1)]),
    )
)

# Those of them that have some way.
LEADING = CHARTS[:4]


def raised(kind, call, *told):
    """The error of exactly this class that a call raises."""
    try:
        call(*told)
    except Exception as error:
        if error.__class__ is kind:
            return error
        raise AssertionError(f"{error!r} instead of {kind.__name__}")
    raise AssertionError(f"no {kind.__name__}")


def led(rows, facing, *instructions):
    """The states to which instructions lead from the cells with the sign A."""
    return final_states(Map(Island(rows), "A", (facing,), list(instructions)))


def single_steps(island, instruction):
    """For each state on the island those to which an instruction leads, by charts that begin in it alone."""
    return {
        (row, column, facing): final_states(Map(island, island[(row, column)], (facing,), [instruction]))
        for row, column in island.cells
        for facing in ALL_FACINGS
    }


def every_way(chart):
    """All tuples of the states at the beginning and behind each instruction, one by one."""
    found = [[state] for state in begin_states(chart)]
    for instruction in chart.instructions:
        steps = single_steps(chart.island, instruction)
        found = [way + [behind] for way in found for behind in steps[way[-1]]]
    return found


def unknown_cells(island):
    """Cells that are not on an island: all its water, some beyond it, and some with booleans."""
    height, width = island.height, island.width
    water = [(row, column) for row in range(height) for column in range(width) if island[(row, column)] == "~"]
    beyond = [(-1, 0), (0, -1), (-1, -1), (height, 0), (0, width), (height, width), (99, 99)]
    return water + beyond + [(True, 0), (0, True), (False, 0), (0, False)]


def spoil(told):
    """Change all lists and dicts in a value."""
    if isinstance(told, dict):
        told.clear()
        told[(99, 99)] = 99
    elif isinstance(told, (list, tuple)):
        for part in told:
            spoil(part)
        if isinstance(told, list):
            told.reverse()
            told.append((99, 99))


def in_order(told):
    """A value in which a dict is the list of its items, so that their order counts when it is compared."""
    return list(told.items()) if isinstance(told, dict) else told


def check_repeated(test, call, *told):
    """Check that calls return equal results though the caller changes them, and that arguments stay as they are."""
    kept = copy.deepcopy(told)
    first = call(*told)
    expected = copy.deepcopy(first)
    spoil(first)
    test.assertEqual(in_order(call(*told)), in_order(expected))
    test.assertEqual(told, kept)
