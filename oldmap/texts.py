"""Reading the rows of texts, word by word."""

from oldmap.checks import ALL_SIGNS, LAND_SIGNS, ascending_signs
from oldmap.errors import InvalidText
from oldmap.instructions import PARTS
from oldmap.islands import LARGEST, Island
from oldmap.maps import Map

FACINGS = ("north", "east", "south", "west")
DIGITS = "0123456789"
LONGEST_NUMBER = 2


class Row:
    """The words of a row, which are taken one by one, from left to right."""

    def __init__(self, number, text):
        self._number = number
        self._words = text.split(" ")
        self._taken = 0

    def begins_with(self, word):
        """Whether the first word is this one."""
        return self._words[0] == word

    def take(self, is_right):
        """The next word, which is right by a function; by no such function an empty word is right."""
        # A missing word is wrong where it would stand, as an empty one would be.
        word = self._words[self._taken] if self._taken < len(self._words) else ""
        if not is_right(word):
            raise InvalidText(self._number, self._taken)
        self._taken += 1
        return word

    def take_all(self, is_right):
        """The list of all words that are left, at least one."""
        found = [self.take(is_right)]
        while self._taken < len(self._words):
            found.append(self.take(is_right))
        return found

    def take_number(self):
        """The number that the next word tells."""
        return int(self.take(_is_number))

    def finish(self):
        """Raise InvalidText if a word is left."""
        if self._taken < len(self._words):
            raise InvalidText(self._number, self._taken)


def rows_of(texts):
    """The list of the rows with some texts, and behind them one without a right word, for all that is missing."""
    return [Row(number, text) for number, text in enumerate(texts + [""])]


def chart_parts(texts):
    """The rows of the island, the signs, facings and instructions of a chart, of whose text these are the rows."""
    rows = rows_of(texts)
    rows[0].take(lambda word: word == "island")
    rows[0].finish()
    land = _island_rows(rows)
    begin = rows[len(land) + 1]
    begin.take(lambda word: word == "from")
    signs = begin.take(_are_land_signs)
    facings = tuple([FACINGS.index(word) for word in begin.take_all(_is_facing)])
    return (tuple(land), signs, facings, [_instruction(row) for row in rows[len(land) + 2:-1]])


def chart_with(parts):
    """The chart with some parts."""
    land, signs, facings, instructions = parts
    return Map(Island(land), signs, facings, instructions)


def _island_rows(rows):
    """The list of the texts of the rows between the first one and that of the beginning."""
    found = []
    while len(found) == 0 or not rows[len(found) + 1].begins_with("from"):
        row = rows[len(found) + 1]
        text = row.take(lambda word: _is_island_row(found, word))
        row.finish()
        found.append(text)
    return found


def _is_island_row(ahead, word):
    """Whether a word can be the next row of an island."""
    width = len(ahead[0]) if len(ahead) > 0 else max(1, min(len(word), LARGEST))
    return len(ahead) < LARGEST and len(word) == width and all([sign in ALL_SIGNS for sign in word])


def _instruction(row):
    word = row.take(lambda told: told in PARTS)
    parts = [_part(row, kind) for kind in PARTS[word]]
    row.finish()
    return (word,) + tuple(parts)


def _part(row, kind):
    if kind == "number":
        return row.take_number()
    if kind == "turns":
        return tuple([int(word) for word in row.take_all(_is_number)])
    return row.take(_are_land_signs if kind == "land signs" else _are_signs)


def _is_number(word):
    if word == "" or len(word) > LONGEST_NUMBER or not all([sign in DIGITS for sign in word]):
        return False
    return word == "0" or word[0] != "0"


def _is_facing(word):
    return word in FACINGS


def _are_land_signs(word):
    return ascending_signs(word, LAND_SIGNS)


def _are_signs(word):
    return ascending_signs(word, ALL_SIGNS)
