"""Walks on which the paces up to each cell count."""

from oldmap.checks import in_range
from oldmap.errors import InvalidNumber, TooMany
from oldmap.islands import require_land
from oldmap.walking import MOST_CELLS, least_order

MOST_WEIGHT = 10 ** 9


def dig_walk(island, begin, cells):
    """The least sum of the paces up to each cell, and the least order of all cells that has it, or None."""
    return weighed_walk(island, begin, {cell: 1 for cell in cells})


def weighed_walk(island, begin, weights):
    """The least sum of the paces up to each cell times its weight, and the least order that has it, or None."""
    for cell in [begin] + list(weights):
        require_land(island, cell)
    if not all([in_range(weight, 1, MOST_WEIGHT) for weight in weights.values()]):
        raise InvalidNumber("a weight is out of range")
    if len(weights) > MOST_CELLS:
        raise TooMany("there are too many cells")
    walked_to = sorted([cell for cell in weights if cell != begin])
    # Each pace is one more for all cells that are left.
    found = least_order(island, begin, walked_to, lambda left: sum([weights[other] for other in left]))
    if found is None:
        return None
    total, order = found
    if begin in weights:
        order = [begin] + order
    return (total, order)
