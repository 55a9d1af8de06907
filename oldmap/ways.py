"""The ways in which a chart can be followed: how many there are, which, and where they end."""

from math import gcd

from oldmap.checks import in_range
from oldmap.errors import InvalidNumber, NoWay
from oldmap.following import begin_states, final_states, step_tables
from oldmap.islands import require_land


def way_count(chart):
    """How many ways there are."""
    _, onward = _counted(chart)
    return _many_onward(onward)


def ways(chart):
    """Yield all ways, ascending."""
    tables, onward = _counted(chart)
    for number in range(_many_onward(onward)):
        yield _numbered(tables, onward, number)


def way_at(chart, number):
    """The way with a number from 0 on, in ascending order."""
    tables, onward = _counted(chart)
    if not in_range(number, 0, _many_onward(onward) - 1):
        raise InvalidNumber("there is no way with this number")
    return _numbered(tables, onward, number)


def number_of(chart, way):
    """The number of a way in ascending order, or None for what is no way."""
    # A state with True in place of 1 equals one of a way, but is none.
    if len(way) != len(chart) + 1 or any([isinstance(part, bool) for state in way for part in state]):
        return None
    tables, onward = _counted(chart)
    number = 0
    for length, state in enumerate(way):
        choices = _next_states(tables, onward, way[:length])
        if state not in choices:
            return None
        number += sum([onward[length][other] for other in choices if other < state])
    return number


def weights(chart):
    """A dict from all cells where ways end, ascending, to the numbers of ways that end there."""
    many = {state: 1 for state in begin_states(chart)}
    for table in step_tables(chart):
        behind = {}
        for state, others in table.items():
            for other in others:
                behind[other] = behind.get(other, 0) + many[state]
        many = behind
    found = {}
    for state in sorted(list(many)):
        cell = state[:2]
        found[cell] = found.get(cell, 0) + many[state]
    return found


def chance(chart, cell):
    """The part of all ways that end at a cell, a fraction (numerator, denominator) in lowest terms."""
    require_land(chart.island, cell)
    found = _some_weights(chart)
    part = found.get(cell, 0)
    whole = sum(list(found.values()))
    shared = gcd(part, whole)
    return (part // shared, whole // shared)


def likeliest(chart):
    """The ascending list of all cells where the most ways end."""
    found = _some_weights(chart)
    most = max(list(found.values()))
    return [cell for cell, many in found.items() if many == most]


def _some_weights(chart):
    found = weights(chart)
    if len(found) == 0:
        raise NoWay("the chart leads nowhere")
    return found


def _counted(chart):
    """The tables of the steps; and for 0, 1, 2 .. instructions done the numbers of ways on from each state then."""
    tables = step_tables(chart)
    onward = [{state: 1 for state in final_states(chart)}]
    for table in tables[::-1]:
        ahead = onward[-1]
        onward.append({state: sum([ahead[other] for other in behind]) for state, behind in table.items()})
    return (tables, onward[::-1])


def _many_onward(onward):
    return sum(list(onward[0].values()))


def _next_states(tables, onward, way):
    """The ascending list of the states that can stand behind those with which a way begins."""
    if len(way) == 0:
        return list(onward[0])
    return tables[len(way) - 1][way[-1]]


def _numbered(tables, onward, number):
    way = ()
    for many in onward:
        for state in _next_states(tables, onward, way):
            # Ascending ways with this state in this place have the numbers below, counted from here.
            if number < many[state]:
                way = way + (state,)
                break
            number -= many[state]
    return way
