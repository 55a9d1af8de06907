"""Charts in which instructions are missing, stand in each other's places, or have the wrong turns."""

from oldmap.checks import in_range
from oldmap.choosing import least_choices
from oldmap.errors import InvalidGaps, InvalidPool, UnknownIndex
from oldmap.following import begin_states, cells_of
from oldmap.instructions import is_instruction
from oldmap.islands import require_land
from oldmap.maps import MOST_INSTRUCTIONS
from oldmap.steps import Steps

MOST_GAPS = 3
MOST_IN_POOL = 6


def mended(chart, gaps, pool):
    """Yield all charts that can result if gaps are filled from a pool, as tuples (choices, chart)."""
    _require_gaps_and_pool(chart, gaps, pool)
    for choices in _all_choices(len(gaps), len(pool)):
        yield (choices, _filled(chart, gaps, pool, choices))


def torn_places(chart, gaps, pool):
    """The ascending list of all cells at the end of some of the charts that can result."""
    _require_gaps_and_pool(chart, gaps, pool)
    return cells_of(list(_least_fillings(chart, gaps, pool)))


def least_mending(chart, gaps, pool, cell):
    """The first choices with the fewest instructions put in by which a chart ends at a cell, or None."""
    _require_gaps_and_pool(chart, gaps, pool)
    require_land(chart.island, cell)
    leading = [told for state, told in _least_fillings(chart, gaps, pool).items() if state[:2] == cell]
    if len(leading) == 0:
        return None
    _, options = min(leading)
    # Of the options of all stages, those of the gaps: there is a stage for each instruction and gap ahead.
    chosen = [options[gap + number] for number, gap in enumerate(gaps)]
    return tuple([option - 1 if option > 0 else None for option in chosen])


def exchanged(chart, one, other):
    """The chart in which two instructions stand in each other's places."""
    last = len(chart) - 1
    if not in_range(one, 0, last) or not in_range(other, 0, last) or one == other:
        raise UnknownIndex("there are no two such instructions")
    instructions = list(chart.instructions)
    instructions[one], instructions[other] = chart[other], chart[one]
    return chart.with_instructions(instructions)


def leading_swaps(chart):
    """The ascending list of the pairs of instructions by whose exchange the chart has some way."""
    steps = Steps(chart.island.rows)
    layers = steps.layers(chart.instructions, begin_states(chart))
    return [
        (one, other)
        for one in range(len(chart))
        for other in range(one + 1, len(chart))
        if len(steps.ends(exchanged(chart, one, other).instructions[one:], layers[one])) > 0
    ]


def misread_turns(chart):
    """The ascending list of the tuples (index, turns) of other turns by which the chart has some way."""
    steps = Steps(chart.island.rows)
    layers = steps.layers(chart.instructions, begin_states(chart))
    return [
        (index, turns)
        for index, instruction in enumerate(chart.instructions)
        for turns in _other_turns(instruction)
        if len(steps.ends((("turn", (turns,)),) + chart.instructions[index + 1:], layers[index])) > 0
    ]


def _require_gaps_and_pool(chart, gaps, pool):
    least = 0
    for index, gap in enumerate(gaps):
        if index == MOST_GAPS or not in_range(gap, least, len(chart)):
            raise InvalidGaps(index)
        least = gap + 1
    for index, instruction in enumerate(pool):
        if index == MOST_IN_POOL or not is_instruction(instruction):
            raise InvalidPool(index)
    if len(chart) + len(gaps) > MOST_INSTRUCTIONS:
        raise InvalidGaps(len(gaps))


def _all_choices(gap_count, pool_size):
    """The list of all tuples of choices, None ahead of all indexes."""
    found = [()]
    for _ in range(gap_count):
        found = [choices + (choice,) for choices in found for choice in [None] + list(range(pool_size))]
    return found


def _filled(chart, gaps, pool, choices):
    instructions = []
    begin = 0
    for gap, choice in zip(gaps, choices):
        instructions.extend(chart.instructions[begin:gap])
        if choice is not None:
            instructions.append(pool[choice])
        begin = gap
    instructions.extend(chart.instructions[begin:])
    return chart.with_instructions(instructions)


def _least_fillings(chart, gaps, pool):
    """What there is of least_choices for the instructions and gaps of a chart, in order."""
    filling = ((0, None),) + tuple([(1, instruction) for instruction in pool])
    stages = []
    for index in range(len(chart) + 1):
        if index in gaps:
            stages.append(filling)
        if index < len(chart):
            stages.append(((0, chart[index]),))
    return least_choices(chart.island.rows, stages, begin_states(chart))


def _other_turns(instruction):
    if instruction[0] != "turn":
        return []
    return [turns for turns in range(4) if turns not in instruction[1]]
