"""Following a chart in all ways at once."""

from oldmap.islands import require_land
from oldmap.steps import Steps


def begin_states(chart):
    """The ascending list of all states in which one can begin."""
    island = chart.island
    begins = [cell for cell in island.cells if island[cell] in chart.signs]
    return [(row, column, facing) for row, column in begins for facing in chart.facings]


def final_states(chart):
    """The ascending list of all states at the end of all instructions."""
    return Steps(chart.island.rows).ends(chart.instructions, begin_states(chart))


def places(chart):
    """The ascending list of all cells at the end of all instructions."""
    return cells_of(final_states(chart))


def impossible_at(chart):
    """The least number of instructions behind which no state is left, or None."""
    for number, states in enumerate(Steps(chart.island.rows).layers(chart.instructions, begin_states(chart))):
        if len(states) == 0:
            return number
    return None


def begins_to(chart, cell):
    """The ascending list of all states at the beginning from which one can come to a cell at the end."""
    require_land(chart.island, cell)
    leading = {state: True for state in final_states(chart) if state[:2] == cell}
    for table in step_tables(chart)[::-1]:
        leading = {
            state: True for state, behind in table.items() if any([other in leading for other in behind])
        }
    return list(leading)


def ends_from(chart, state):
    """The ascending list of all cells where one can be at the end if one begins in a state."""
    # A state with True in place of 1 equals one at the beginning, but is none.
    if any([isinstance(part, bool) for part in state]) or state not in begin_states(chart):
        return []
    return cells_of(Steps(chart.island.rows).ends(chart.instructions, [state]))


def step_tables(chart):
    """For each instruction a dict from the states ahead of it, ascending, to the ascending lists of those behind."""
    steps = Steps(chart.island.rows)
    layers = steps.layers(chart.instructions, begin_states(chart))
    return [
        {state: steps.behind(instruction, state) for state in states}
        for instruction, states in zip(chart.instructions, layers)
    ]


def cells_of(states):
    """The ascending list of the cells of some states."""
    return sorted({state[:2] for state in states})
