"""Several charts of the same treasure: where they agree, and which one is wrong."""

from oldmap.errors import InvalidMaps
from oldmap.following import places
from oldmap.ways import weights

LEAST_CHARTS = 2
MOST_CHARTS = 6


def common_places(charts):
    """The ascending list of the cells at which all charts end."""
    _require_charts(charts)
    return [cell for cell, indexes in _ending_at(charts).items() if len(indexes) == len(charts)]


def joint_weights(charts):
    """A dict from the cells at which all charts end, ascending, to the products of the numbers of ways there."""
    _require_charts(charts)
    found = weights(charts[0])
    for chart in charts[1:]:
        others = weights(chart)
        found = {cell: many * others[cell] for cell, many in found.items() if cell in others}
    return found


def most_agreeing(charts):
    """How many charts at most have a common cell, the least indexes of so many, and the cells of just these."""
    _require_charts(charts)
    ending = _ending_at(charts)
    if len(ending) == 0:
        return (0, (), ())
    most = max([len(indexes) for indexes in ending.values()])
    least = min([indexes for indexes in ending.values() if len(indexes) == most])
    return (most, least, tuple([cell for cell, indexes in ending.items() if indexes == least]))


def odd_one_out(charts):
    """The ascending list of the indexes of the charts without which alone the others have a common cell."""
    _require_charts(charts)
    agreeing = list(_ending_at(charts).values())
    everyone = tuple(range(len(charts)))
    if everyone in agreeing:
        return []
    return [odd for odd in everyone if everyone[:odd] + everyone[odd + 1:] in agreeing]


def _require_charts(charts):
    for index, chart in enumerate(charts):
        if index == MOST_CHARTS or chart.island != charts[0].island:
            raise InvalidMaps(index)
    if len(charts) < LEAST_CHARTS:
        raise InvalidMaps(len(charts))


def _ending_at(charts):
    """A dict from all cells at which some chart ends, ascending, to the ascending tuples of the indexes of these."""
    found = {}
    for index, chart in enumerate(charts):
        for cell in places(chart):
            found[cell] = found.get(cell, ()) + (index,)
    return {cell: found[cell] for cell in sorted(list(found))}
