"""To which states an instruction leads from a state."""

from oldmap.islands import LARGEST
from oldmap.paces import facing_by, next_cell, paces_ahead, paces_along, sign_ahead, sign_at


def led_to(rows, instruction, state):
    """The ascending list of the states to which an instruction leads from a state on land."""
    word, *parts = instruction
    if word == "turn":
        states = [facing_by(state, turn) for turn in parts[0]]
    elif word == "walk":
        states = paces_ahead(rows, state, parts[1])[parts[0]:]
    elif word == "until":
        states = _until(rows, state, parts[0])
    elif word == "toward":
        states = [aimed for aimed in _all_sides(state) if _is_ahead(rows, aimed, parts[0])]
    elif word == "beside":
        states = [state] if sign_ahead(rows, facing_by(state, parts[0])) in parts[1] else []
    elif word == "near":
        states = [state] if _is_near(rows, state, parts[0], parts[1]) else []
    else:
        states = paces_along(rows, state, parts[0], parts[2])[parts[1]:]
    return sorted(set(states))


def _until(rows, state, signs):
    for behind in paces_ahead(rows, state, LARGEST)[1:]:
        if sign_at(rows, behind[0], behind[1]) in signs:
            return [behind]
    return []


def _all_sides(state):
    return [facing_by(state, turn) for turn in range(4)]


def _is_ahead(rows, state, signs):
    """Whether some cell straight ahead, however far and also behind water, has one of the signs."""
    # The signs are those of land, so that beyond the island there is none to find.
    for _ in range(LARGEST):
        row, column = next_cell(state)
        if sign_at(rows, row, column) in signs:
            return True
        state = (row, column, state[2])
    return False


def _is_near(rows, state, signs, most):
    """Whether some cell, at most so many rows and columns together away, has one of the signs."""
    # One row and one column of the water on each side stand for all that lies beyond the island.
    for row in range(-1, len(rows) + 1):
        for column in range(-1, len(rows[0]) + 1):
            away = abs(row - state[0]) + abs(column - state[1])
            if away <= most and sign_at(rows, row, column) in signs:
                return True
    return False
