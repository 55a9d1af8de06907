"""Pictures of islands: their rows, in which some cells have other signs."""

from oldmap.crossing import crossings
from oldmap.following import cells_of, final_states
from oldmap.islands import require_land

PLACE_SIGN = "*"
DIG_SIGN = "o"
CROSSED_SIGNS = {"surely": "#", "perhaps": "+"}


def picture(chart):
    """The island of a chart with the places at the end."""
    return _drawn(chart.island, {cell: PLACE_SIGN for cell in cells_of(final_states(chart))})


def crossed_picture(chart):
    """The island of a chart with the cells that are crossed surely and perhaps."""
    return _drawn(chart.island, {cell: CROSSED_SIGNS[word] for cell, word in crossings(chart).items()})


def digs_picture(island, places, digs):
    """An island with the cells of digs, and with the other ones of some places."""
    dug = [cell for cell, _ in digs]
    for cell in list(places) + dug:
        require_land(island, cell)
    signs = {cell: PLACE_SIGN for cell in places}
    for cell in dug:
        signs[cell] = DIG_SIGN
    return _drawn(island, signs)


def _drawn(island, signs):
    """The rows of an island, in which the cells of a dict have other signs."""
    return "\n".join([
        "".join([signs.get((row, column), sign) for column, sign in enumerate(text)])
        for row, text in enumerate(island.rows)
    ])
