"""Walking over an island with the fewest paces."""

from oldmap.errors import TooMany
from oldmap.islands import require_land
from oldmap.paces import cells_beside

MOST_CELLS = 7


def distance(island, one, other):
    """The fewest paces from one cell to another, or None if one cannot walk there."""
    _require_both(island, one, other)
    return paces_from(island.cells, one).get(other)


def route(island, one, other):
    """The least list of the cells of a walk with the fewest paces, or None if one cannot walk there."""
    _require_both(island, one, other)
    paces = paces_from(island.cells, other)
    if one not in paces:
        return None
    cells = [one]
    while cells[-1] != other:
        left = paces[cells[-1]] - 1
        cells.append(min([cell for cell in cells_beside(cells[-1]) if paces.get(cell) == left]))
    return cells


def least_walk(island, begin, cells):
    """The fewest paces from a cell over all cells of a list, and the least order to come to them, or None."""
    for cell in [begin] + list(cells):
        require_land(island, cell)
    different = sorted(set(cells))
    if len(different) > MOST_CELLS:
        raise TooMany("there are too many cells")
    return least_order(island, begin, different, lambda left: 1)


def paces_from(cells, begin):
    """A dict from all cells to which one can walk over some cells to the fewest paces."""
    land = {cell: True for cell in cells}
    paces = {begin: 0}
    edge = [begin]
    while len(edge) > 0:
        number = paces[edge[0]] + 1
        edge = sorted({
            cell for one in edge for cell in cells_beside(one) if cell in land and cell not in paces
        })
        for cell in edge:
            paces[cell] = number
    return paces


def least_order(island, begin, cells, factor):
    """The least sum of the paces from each cell to the next, times a factor, and the least order of it, or None.

    The factor is a function of the list of the cells that are left ahead of these paces.
    """
    paces = {cell: paces_from(island.cells, cell) for cell in [begin] + cells}
    if not all([cell in paces[begin] for cell in cells]):
        return None
    return _least_order(paces, begin, cells, factor)


def _least_order(paces, at, left, factor):
    if len(left) == 0:
        return (0, [])
    found = []
    for cell in left:
        total, order = _least_order(paces, cell, [other for other in left if other != cell], factor)
        found.append((total + paces[at][cell] * factor(left), [cell] + order))
    return min(found)


def _require_both(island, one, other):
    require_land(island, one)
    require_land(island, other)
