"""Which tuples are instructions of a chart."""

from oldmap.checks import ALL_SIGNS, LAND_SIGNS, ascending_numbers, ascending_signs, in_range

MOST_PACES = 20
MOST_AWAY = 22

# What belongs to each instruction, in order.
PARTS = {
    "turn": ("turns",),
    "walk": ("number", "number"),
    "until": ("land signs",),
    "toward": ("land signs",),
    "beside": ("number", "signs"),
    "near": ("signs", "number"),
    "shore": ("number", "number", "number"),
}


def is_instruction(instruction):
    """Whether all parts of an instruction are such as a chart can have."""
    word, *parts = instruction
    if word == "turn":
        return ascending_numbers(parts[0], 0, 3)
    if word == "walk":
        return _are_paces(parts[0], parts[1])
    if word in ("until", "toward"):
        return ascending_signs(parts[0], LAND_SIGNS)
    if word == "beside":
        return in_range(parts[0], 0, 3) and ascending_signs(parts[1], ALL_SIGNS)
    if word == "near":
        return ascending_signs(parts[0], ALL_SIGNS) and in_range(parts[1], 0, MOST_AWAY)
    if word == "shore":
        return _is_side(parts[0]) and _are_paces(parts[1], parts[2])
    return False


def _is_side(side):
    return in_range(side, 1, 3) and side != 2


def _are_paces(least, most):
    return in_range(least, 0, MOST_PACES) and in_range(most, least, MOST_PACES)
