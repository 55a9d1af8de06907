"""Over which cells the ways of a chart lead.

A set of cells is kept as a mask: an integer with a bit for each of its cells.
"""

from oldmap.errors import NoWay
from oldmap.following import begin_states
from oldmap.islands import LARGEST, require_land
from oldmap.leading import led_to
from oldmap.paces import paces_ahead, paces_along


def crossed(chart, cell):
    """Whether all, some or no ways lead over a cell: "surely", "perhaps" or "never"."""
    require_land(chart.island, cell)
    surely, perhaps = _crossed_masks(chart)
    return _word(surely, perhaps, cell)


def crossings(chart):
    """A dict from all cells, ascending, over which some way leads to "surely" or "perhaps"."""
    surely, perhaps = _crossed_masks(chart)
    words = {cell: _word(surely, perhaps, cell) for cell in chart.island.cells}
    return {cell: word for cell, word in words.items() if word != "never"}


def _word(surely, perhaps, cell):
    if surely & _bit(cell) != 0:
        return "surely"
    return "perhaps" if perhaps & _bit(cell) != 0 else "never"


def _bit(cell):
    row, column = cell
    return 1 << (row * LARGEST + column)


def _crossed_masks(chart):
    """The cells over which all ways lead, and those over which some do."""
    found = {state: (_bit(state[:2]), _bit(state[:2])) for state in begin_states(chart)}
    for instruction in chart.instructions:
        found = _behind(chart.island.rows, instruction, found)
    if len(found) == 0:
        raise NoWay("the chart leads nowhere")
    return _shared(list(found.values()))


def _behind(rows, instruction, found):
    """For the states behind an instruction the cells of all and of some ways to them, from those ahead of it."""
    arrivals = {}
    for state, (surely, perhaps) in found.items():
        for other, walked in _walked_masks(rows, instruction, state):
            arrivals.setdefault(other, []).append((surely | walked, perhaps | walked))
    return {other: _shared(pairs) for other, pairs in arrivals.items()}


def _shared(pairs):
    """The cells of all ways and of some ways, where there is such a pair for each part of the ways."""
    surely, perhaps = pairs[0]
    for one, other in pairs:
        surely = surely & one
        perhaps = perhaps | other
    return (surely, perhaps)


def _walked_masks(rows, instruction, state):
    """A list of tuples: each state to which an instruction leads from a state, and the cells walked over."""
    trail, least = _trail(rows, instruction, state)
    masks = [_bit(state[:2])]
    for walked in trail[1:]:
        masks.append(masks[-1] | _bit(walked[:2]))
    # The first one from the least number on, as only the fewest paces to one state count.
    return [
        (other, masks[trail.index(other, least) if other in trail else 0])
        for other in led_to(rows, instruction, state)
    ]


def _trail(rows, instruction, state):
    """The states of the paces of an instruction, beginning with its state, and the least number of these paces."""
    word, *parts = instruction
    if word == "shore":
        return (paces_along(rows, state, parts[0], parts[2]), parts[1])
    if word == "walk":
        return (paces_ahead(rows, state, parts[1]), parts[0])
    if word == "until":
        return (paces_ahead(rows, state, LARGEST), 1)
    return ([state], 0)
