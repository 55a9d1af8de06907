"""The land of an island: its regions, its shore, and the cells that one cannot walk round."""

from oldmap.paces import cells_beside
from oldmap.walking import paces_from, route


def regions(island):
    """The ascending list of the ascending lists of all cells between which one can walk."""
    found = []
    left = island.cells
    while len(left) > 0:
        region = paces_from(left, left[0])
        found.append(sorted(list(region)))
        left = [cell for cell in left if cell not in region]
    return found


def shore_cells(island):
    """The ascending list of all cells beside which there is water."""
    return [cell for cell in island.cells if not all([beside in island for beside in cells_beside(cell)])]


def needed_cells(island, one, other):
    """The ascending list of the cells between two that every walk leads over, or None if one cannot walk there."""
    cells = route(island, one, other)
    if cells is None:
        return None
    # What every walk leads over, a shortest one leads over, too.
    return sorted([cell for cell in cells[1:-1] if not _is_walk_without(island, one, other, cell)])


def _is_walk_without(island, one, other, left_out):
    return other in paces_from([cell for cell in island.cells if cell != left_out], one)
