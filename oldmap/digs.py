"""Digging for a treasure: what digs tell, what remains then, and where to dig."""

from oldmap.checks import in_range
from oldmap.errors import InvalidDig, InvalidRule, TooMany
from oldmap.instructions import MOST_AWAY
from oldmap.islands import require_land

WORDS = {
    "plain": ("found", "empty"),
    "rows": ("found", "north", "south", "level"),
    "near": ("found", "near", "far"),
}
MOST_PLACES = 9


def hint(rule, cell, place):
    """What a dig at a cell tells of a treasure at a place."""
    require_rule(rule)
    return _told(rule, cell, place)


def left_after(island, places, rule, digs):
    """The ascending list of the places that remain after some digs."""
    return _left_behind(island, places, rule, digs)[-1]


def first_wrong(island, places, rule, digs):
    """The index of the first dig after which no place remains, or None."""
    for index, left in enumerate(_left_behind(island, places, rule, digs)[1:]):
        if len(left) == 0:
            return index
    return None


def next_dig(island, places, rule):
    """The first cell after whose dig the fewest places remain in the worst case, or None without land."""
    _require_places(island, places, rule)
    cells = island.cells
    if len(cells) == 0:
        return None
    most_left = [_most_left(rule, cell, places) for cell in cells]
    return cells[most_left.index(min(most_left))]


def fewest_digs(island, places, rule):
    """How many digs are needed in the worst case until the treasure is found."""
    _require_places(island, places, rule)
    if len(places) > MOST_PLACES:
        raise TooMany("there are too many places")
    splits = sorted({_split(rule, cell, places) for cell in island.cells})
    # By the masks of the places that are left: each part of a mask is a lesser number, so that it comes first.
    fewest = [0]
    for left in range(1, 1 << len(places)):
        parted = [[left & mask for mask in masks] for masks in splits]
        worst = [max([fewest[part] for part in parts], default=0) for parts in parted if left not in parts]
        fewest.append(1 + min(worst))
    return fewest[-1]


def require_rule(rule):
    """Raise InvalidRule for a rule by which nobody can dig."""
    if rule in (("plain",), ("rows",)):
        return
    if len(rule) != 2 or rule[0] != "near" or not in_range(rule[1], 1, MOST_AWAY):
        raise InvalidRule("there is no such rule")


def _require_places(island, places, rule):
    for place in places:
        require_land(island, place)
    require_rule(rule)


def _told(rule, cell, place):
    if cell == place:
        return "found"
    if rule[0] == "rows":
        return _told_of_rows(cell[0], place[0])
    if rule[0] == "near":
        away = abs(cell[0] - place[0]) + abs(cell[1] - place[1])
        return "near" if away <= rule[1] else "far"
    return "empty"


def _told_of_rows(row, place_row):
    if place_row == row:
        return "level"
    return "north" if place_row < row else "south"


def _left_behind(island, places, rule, digs):
    """The list of the lists of the places that remain after 0, 1, 2 .. digs."""
    _require_places(island, places, rule)
    for cell, _ in digs:
        require_land(island, cell)
    for index, (_, word) in enumerate(digs):
        if word not in WORDS[rule[0]]:
            raise InvalidDig(index)
    left = [list(places)]
    for cell, word in digs:
        left.append([place for place in left[-1] if _told(rule, cell, place) == word])
    return left


def _most_left(rule, cell, places):
    """How many places remain in the worst case after a dig at a cell."""
    told = [_told(rule, cell, place) for place in places]
    return max([told.count(word) for word in told if word != "found"], default=0)


def _split(rule, cell, places):
    """For each word that a dig at a cell can tell, but "found", the mask of the places of which it tells this word.

    A mask is an integer with a bit for each of its places.
    """
    masks = {}
    for number, place in enumerate(places):
        word = _told(rule, cell, place)
        masks[word] = masks.get(word, 0) | (1 << number)
    return tuple([mask for word, mask in masks.items() if word != "found"])
