"""Single paces: where they lead, and what lies ahead of them.

A state is a tuple (row, column, facing); the rows are those of an island.
"""

from oldmap.checks import WATER

# How a pace changes the row and the column, by the facing: north, east, south, west.
ROW_STEPS = (-1, 0, 1, 0)
COLUMN_STEPS = (0, 1, 0, -1)


def sign_at(rows, row, column):
    """The sign of a cell; beyond the island is water."""
    if 0 <= row < len(rows) and 0 <= column < len(rows[0]):
        return rows[row][column]
    return WATER


def next_cell(state):
    """The next cell straight ahead, be it land or not."""
    row, column, facing = state
    return (row + ROW_STEPS[facing], column + COLUMN_STEPS[facing])


def cells_beside(cell):
    """The list of the next cells in all four directions, be they land or not."""
    row, column = cell
    return [next_cell((row, column, facing)) for facing in range(len(ROW_STEPS))]


def sign_ahead(rows, state):
    """The sign of the next cell straight ahead."""
    row, column = next_cell(state)
    return sign_at(rows, row, column)


def facing_by(state, turn):
    """The state after a turn by so many quarters to the right."""
    row, column, facing = state
    return (row, column, (facing + turn) % 4)


def paces_ahead(rows, state, most):
    """The list of the states behind 0, 1, 2 .. paces straight ahead, at most so many, as far as there is land."""
    states = [state]
    while len(states) <= most and sign_ahead(rows, states[-1]) != WATER:
        states.append(_pace(states[-1]))
    return states


def paces_along(rows, state, side, most):
    """The list of the states behind 0, 1, 2 .. paces along the shore, at most so many, as far as one can go."""
    states = [state]
    while len(states) <= most:
        ready = _looked(rows, states[-1], side)
        if sign_ahead(rows, ready) == WATER:
            break
        states.append(_pace(ready))
    return states


def _pace(state):
    row, column = next_cell(state)
    return (row, column, state[2])


def _looked(rows, state, side):
    """The state after the look to the side of the shore, ahead of the pace."""
    aside = facing_by(state, side)
    if sign_ahead(rows, aside) != WATER:
        return aside
    turns = 0
    while turns < 3 and sign_ahead(rows, state) == WATER:
        state = facing_by(state, -side)
        turns += 1
    return state
