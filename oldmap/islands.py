"""Islands: land, landmarks and water, row by row."""

from oldmap.checks import ALL_SIGNS, LAND_SIGNS, WATER, in_range
from oldmap.errors import InvalidIsland, UnknownCell

LARGEST = 12


class Island:
    """An island of up to twelve rows of up to twelve signs."""

    def __init__(self, rows):
        _check_rows(rows)
        self._rows = tuple(rows)

    @property
    def rows(self):
        """The tuple of the texts of the rows, from north to south."""
        return self._rows

    @property
    def height(self):
        """The number of rows."""
        return len(self._rows)

    @property
    def width(self):
        """The number of signs in each row."""
        return len(self._rows[0])

    @property
    def cells(self):
        """A new ascending list of all cells that are not water."""
        return [
            (row, column)
            for row, signs in enumerate(self._rows)
            for column, sign in enumerate(signs)
            if sign != WATER
        ]

    @property
    def landmarks(self):
        """The ascending tuple of the letters on the island."""
        signs = "".join(self._rows)
        return tuple([letter for letter in LAND_SIGNS[1:] if letter in signs])

    def turned(self):
        """The island turned by a quarter to the right."""
        upward = self._rows[::-1]
        return Island(tuple(["".join([signs[column] for signs in upward]) for column in range(self.width)]))

    def __getitem__(self, cell):
        if not _lies_within(self._rows, cell):
            raise UnknownCell("the cell lies beyond the island")
        row, column = cell
        return self._rows[row][column]

    def __contains__(self, cell):
        return _lies_within(self._rows, cell) and self._rows[cell[0]][cell[1]] != WATER

    # Without this, Python would iterate by indexes 0, 1, 2 and so on.
    def __iter__(self):
        raise TypeError("an island cannot be iterated over")

    def __eq__(self, other):
        return isinstance(other, Island) and self._rows == other._rows


def require_land(island, cell):
    """Raise UnknownCell for a cell that is not on the island or is water."""
    if cell not in island:
        raise UnknownCell("the cell is not on the island, or is water")


def _lies_within(rows, cell):
    row, column = cell
    return in_range(row, 0, len(rows) - 1) and in_range(column, 0, len(rows[0]) - 1)


def _check_rows(rows):
    if len(rows) == 0:
        raise InvalidIsland(0, 0)
    # A first row without signs lacks its first one, hence at least 1.
    width = max(1, min(len(rows[0]), LARGEST))
    for row, signs in enumerate(rows):
        if row == LARGEST:
            raise InvalidIsland(row, 0)
        column = _first_wrong_column(signs, width)
        if column is not None:
            raise InvalidIsland(row, column)


def _first_wrong_column(signs, width):
    for column in range(width):
        if column == len(signs) or signs[column] not in ALL_SIGNS:
            return column
    if len(signs) > width:
        return width
    return None
