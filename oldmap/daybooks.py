"""Daybooks: texts of a chart, and of what was done to find its treasure."""

from oldmap.digs import WORDS, next_dig
from oldmap.errors import DaybookError, InvalidText, MapError
from oldmap.searches import Search
from oldmap.texts import chart_parts, chart_with, rows_of

ENTRIES = ("dig", "walk", "undo", "places", "paces", "next")
OPERATIONS = ("dig", "walk", "undo")
MOST_ENTRIES = 100


class Daybook:
    """The text of a chart, of a search for its treasure, and of what was done and asked then."""

    def __init__(self, text):
        try:
            parts, search_row, rule, here, entries = _read(text)
        except InvalidText as wrong:
            raise DaybookError(wrong.row, wrong.word) from None
        self._chart = chart_with(parts)
        self._rule = rule
        self._here = here
        self._operations = [entry for entry in entries if entry[0] in OPERATIONS]
        self._results = "\n".join(_answers(self._chart, search_row, rule, here, entries))

    @property
    def results(self):
        """The text of what all entries returned, a line for each."""
        return self._results

    def search(self):
        """A new search behind all entries."""
        return Search.replay(self._chart, self._rule, self._here, self._operations)


def _read(text):
    """The parts of the chart, the number of the row of the search, its rule and its cell, and the entries."""
    texts = text.split("\n")
    rows = rows_of(texts)
    search_row = min([number for number, row in enumerate(rows) if row.begins_with("search")], default=len(texts))
    parts = chart_parts(texts[:search_row])
    rule, here = _rule_and_cell(rows[search_row])
    entries = [_entry(row, number) for number, row in enumerate(rows[search_row + 1:-1])]
    return (parts, search_row, rule, here, entries)


def _rule_and_cell(row):
    row.take(lambda word: word == "search")
    rule = (row.take(lambda word: word in WORDS),)
    if rule == ("near",):
        rule = ("near", row.take_number())
    cell = _cell(row)
    row.finish()
    return (rule, cell)


def _cell(row):
    number = row.take_number()
    return (number, row.take_number())


def _entry(row, number):
    word = row.take(lambda told: number < MOST_ENTRIES and told in ENTRIES)
    entry = (word,)
    if word == "dig":
        entry = ("dig", row.take(_is_told))
    elif word == "walk":
        entry = ("walk", _cell(row))
    row.finish()
    return entry


def _is_told(word):
    """Whether a dig by some rule tells this word."""
    return any([word in words for words in WORDS.values()])


def _answers(chart, search_row, rule, here, entries):
    """The list of the texts of what all entries return, which stand behind the row of the search."""
    found = []
    row = search_row
    try:
        search = Search(chart, rule, here)
        for entry in entries:
            row += 1
            found.append(_answer(chart.island, rule, search, entry))
    except MapError:
        raise DaybookError(row, 0) from None
    return found


def _answer(island, rule, search, entry):
    if entry == ("places",):
        return _places_text(search.places_left)
    if entry == ("paces",):
        return str(search.paces_walked)
    if entry == ("next",):
        return _cell_text(next_dig(island, search.places_left, rule))
    returned = search.apply_all([entry])[0]
    if isinstance(returned, bool):
        return "yes" if returned else "no"
    return str(returned)


def _places_text(cells):
    return " ".join([_cell_text(cell) for cell in cells]) if len(cells) > 0 else "-"


def _cell_text(cell):
    row, column = cell
    return f"{row},{column}"
