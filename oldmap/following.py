"""Following a chart in all ways at once."""

from oldmap.islands import require_land
from oldmap.leading import led_to


def begin_states(chart):
    """The ascending list of all states in which one can begin."""
    island = chart.island
    begins = [cell for cell in island.cells if island[cell] in chart.signs]
    return [(row, column, facing) for row, column in begins for facing in chart.facings]


def final_states(chart):
    """The ascending list of all states at the end of all instructions."""
    return followed(chart, begin_states(chart))[-1]


def places(chart):
    """The ascending list of all cells at the end of all instructions."""
    return cells_of(final_states(chart))


def impossible_at(chart):
    """The least number of instructions behind which no state is left, or None."""
    for number, states in enumerate(followed(chart, begin_states(chart))):
        if len(states) == 0:
            return number
    return None


def begins_to(chart, cell):
    """The ascending list of all states at the beginning from which one can come to a cell at the end."""
    require_land(chart.island, cell)
    rows = chart.island.rows
    layers = followed(chart, begin_states(chart))
    leading = {state: True for state in layers[-1] if state[:2] == cell}
    for index in reversed(range(len(chart))):
        instruction = chart[index]
        leading = {
            state: True
            for state in layers[index]
            if any([behind in leading for behind in led_to(rows, instruction, state)])
        }
    return list(leading)


def ends_from(chart, state):
    """The ascending list of all cells where one can be at the end if one begins in a state."""
    # A state with True in place of 1 equals one at the beginning, but is none.
    if any([isinstance(part, bool) for part in state]) or state not in begin_states(chart):
        return []
    return cells_of(followed(chart, [state])[-1])


def followed(chart, states):
    """The list of the ascending lists of states behind 0, 1, 2 .. instructions, beginning in some states."""
    rows = chart.island.rows
    layers = [states]
    for instruction in chart.instructions:
        states = sorted({behind for state in states for behind in led_to(rows, instruction, state)})
        layers.append(states)
    return layers


def cells_of(states):
    """The ascending list of the cells of some states."""
    return sorted({state[:2] for state in states})
