"""Charts: where an old map begins, and what it says to do then."""

from oldmap.checks import LAND_SIGNS, ascending_numbers, ascending_signs, in_range
from oldmap.errors import InvalidMap
from oldmap.instructions import is_instruction

MOST_INSTRUCTIONS = 20


class Map:
    """A chart of an island: the signs and the facings of its beginning, and its instructions."""

    def __init__(self, island, signs, facings, instructions):
        if not ascending_signs(signs, LAND_SIGNS) or not ascending_numbers(facings, 0, 3):
            raise InvalidMap(-1)
        _check_instructions(instructions)
        self._island = island
        self._signs = signs
        self._facings = tuple(facings)
        self._instructions = tuple(instructions)

    @property
    def island(self):
        """The island of the chart."""
        return self._island

    @property
    def signs(self):
        """The text of the signs at which the chart begins."""
        return self._signs

    @property
    def facings(self):
        """The ascending tuple of the facings in which the chart begins."""
        return self._facings

    @property
    def instructions(self):
        """The tuple of the instructions."""
        return self._instructions

    def until(self, number):
        """The chart with so many of the first instructions."""
        return self.with_instructions(self._instructions[:max(0, number)])

    def without(self, indexes):
        """The chart without the instructions at some indexes."""
        # True would be found as 1 and False as 0, but they are no indexes.
        omitted = [index for index in indexes if in_range(index, 0, len(self._instructions) - 1)]
        kept = [told for index, told in enumerate(self._instructions) if index not in omitted]
        return self.with_instructions(kept)

    def with_instructions(self, instructions):
        """The chart with other instructions."""
        return Map(self._island, self._signs, self._facings, instructions)

    def turned(self):
        """The chart of the island turned by a quarter to the right, facing likewise."""
        facings = tuple(sorted([(facing + 1) % 4 for facing in self._facings]))
        return Map(self._island.turned(), self._signs, facings, self._instructions)

    def __len__(self):
        return len(self._instructions)

    def __getitem__(self, index):
        return self._instructions[index]

    # Without this, Python would iterate by indexes 0, 1, 2 and so on.
    def __iter__(self):
        raise TypeError("a chart cannot be iterated over")

    def __add__(self, other):
        return Map(self._island, self._signs, self._facings, self._instructions + tuple(other))

    def __eq__(self, other):
        return (
            isinstance(other, Map)
            and self._island == other._island
            and self._signs == other._signs
            and self._facings == other._facings
            and self._instructions == other._instructions
        )


def _check_instructions(instructions):
    for index, instruction in enumerate(instructions):
        if index == MOST_INSTRUCTIONS or not is_instruction(instruction):
            raise InvalidMap(index)
