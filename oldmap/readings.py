"""Which instructions of a chart must be wrong, and which ones it does not need."""

from oldmap.checks import in_range
from oldmap.choosing import least_choices
from oldmap.errors import InvalidNumber, NoBeginning, TooMany
from oldmap.following import begin_states, cells_of, places
from oldmap.islands import require_land
from oldmap.maps import MOST_INSTRUCTIONS
from oldmap.steps import Steps

MOST_FOR_LEANEST = 10

# The first of the two options of each instruction, so that of several lists the least one comes first.
LEFT_OUT = 0


def fewest_misread(chart):
    """The fewest instructions that must be left out so that some way is left, and the least list of so many."""
    number, choices = min(list(_misread(chart).values()))
    return (number, [index for index, choice in enumerate(choices) if choice == LEFT_OUT])


def places_misread(chart, number):
    """The ascending list of all cells at the end if at most so many instructions, any ones, are left out."""
    if not in_range(number, 0, MOST_INSTRUCTIONS):
        raise InvalidNumber("so many instructions cannot be left out")
    return cells_of([state for state, (least, _) in _misread(chart).items() if least <= number])


def misread_to(chart, cell):
    """The fewest instructions that must be left out so that one can be at a cell at the end, or None."""
    require_land(chart.island, cell)
    return min([least for state, (least, _) in _misread(chart).items() if state[:2] == cell], default=None)


def needless(chart):
    """The ascending list of the instructions without which, each alone, the chart has the same places."""
    whole = places(chart)
    return [index for index, cells in enumerate(_places_without_each(chart)) if cells == whole]


def sharpness(chart):
    """For each instruction the number of places that the chart has only without it."""
    whole = places(chart)
    return [len([cell for cell in cells if cell not in whole]) for cells in _places_without_each(chart)]


def leanest(chart):
    """The first of the shortest lists of instructions such that the chart with these alone has the same places."""
    if len(chart) > MOST_FOR_LEANEST:
        raise TooMany("the chart has too many instructions")
    whole = places(chart)
    steps = Steps(chart.island.rows)
    found = [([], begin_states(chart))]
    while True:
        for indexes, states in found:
            if cells_of(states) == whole:
                return indexes
        found = _with_one_more(chart, steps, found)


def _with_one_more(chart, steps, found):
    """For all lists of one more instruction, in list order, the list and the states behind it."""
    return [
        (indexes + [index], steps.ends([chart[index]], states))
        for indexes, states in found
        for index in range(max(indexes, default=-1) + 1, len(chart))
    ]


def _misread(chart):
    """A dict from all states at the end, if any instructions are left out, to the fewest ones, and choices for them."""
    begins = begin_states(chart)
    if len(begins) == 0:
        raise NoBeginning("the chart begins nowhere")
    stages = [((1, None), (0, instruction)) for instruction in chart.instructions]
    return least_choices(chart.island.rows, stages, begins)


def _places_without_each(chart):
    steps = Steps(chart.island.rows)
    layers = steps.layers(chart.instructions, begin_states(chart))
    rests = [chart.instructions[index + 1:] for index in range(len(chart))]
    return [cells_of(steps.ends(rest, states)) for rest, states in zip(rests, layers)]
