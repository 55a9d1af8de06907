"""Following the instructions of a chart round after round.

A set of states is kept as a mask: an integer with a bit for each of its states, by their numbers among all states of
the island.
"""

from oldmap.checks import in_range
from oldmap.errors import InvalidNumber
from oldmap.following import begin_states
from oldmap.islands import require_land
from oldmap.steps import Steps

MOST_ROUNDS = 10 ** 18
MOST_COUNTED_ROUNDS = 60


def states_after_rounds(chart, count):
    """The ascending list of all states behind so many rounds."""
    _require_count(count, MOST_ROUNDS)
    found = _begin_mask(chart)
    masks = _round_masks(chart)
    # The masks are those of 1, 2, 4 .. rounds, so that a great count takes few of them.
    while count > 0:
        if count % 2 == 1:
            found = _behind(masks, found)
        masks = _behind_each(masks)
        count = count // 2
    return _masked(_all_states(chart), found)


def first_round(chart, cell):
    """Behind how many whole rounds somebody can be at a cell first, or None."""
    require_land(chart.island, cell)
    masks = _round_masks(chart)
    wanted = _mask_of(chart, [(cell[0], cell[1], facing) for facing in range(4)])
    latest = known = _begin_mask(chart)
    count = 0
    while latest & wanted == 0:
        # What was behind fewer rounds already leads to nothing new.
        latest = (known | _behind(masks, latest)) ^ known
        if latest == 0:
            return None
        known = known | latest
        count += 1
    return count


def round_ways(chart, count):
    """The number of ways of following so many rounds."""
    _require_count(count, MOST_COUNTED_ROUNDS)
    onward = {state: 1 for state in _all_states(chart)}
    onward = _ahead_of(chart, chart.instructions * count, onward, lambda numbers: sum(numbers))
    return sum([onward[state] for state in begin_states(chart)])


def stays(chart):
    """The ascending list of all states from which a single round can lead back to the same state."""
    masks = _round_masks(chart)
    return [state for number, state in enumerate(_all_states(chart)) if masks[number] & (1 << number) != 0]


def _require_count(count, most):
    if not in_range(count, 0, most):
        raise InvalidNumber("so many rounds cannot be followed")


def _all_states(chart):
    return [(row, column, facing) for row, column in chart.island.cells for facing in range(4)]


def _mask_of(chart, states):
    wanted = {state: True for state in states}
    return sum([1 << number for number, state in enumerate(_all_states(chart)) if state in wanted])


def _masked(states, mask):
    return [state for number, state in enumerate(states) if mask & (1 << number) != 0]


def _begin_mask(chart):
    return _mask_of(chart, begin_states(chart))


def _round_masks(chart):
    """The list of the masks of the states to which a round leads, for each state of the island."""
    own = {state: 1 << number for number, state in enumerate(_all_states(chart))}
    return list(_ahead_of(chart, chart.instructions, own, _union).values())


def _union(masks):
    found = 0
    for mask in masks:
        found = found | mask
    return found


def _ahead_of(chart, instructions, behind, joined):
    """For each state a value ahead of some instructions, joined from those of the states behind each of them."""
    steps = Steps(chart.island.rows)
    for instruction in instructions[::-1]:
        behind = {
            state: joined([behind[other] for other in steps.behind(instruction, state)]) for state in list(behind)
        }
    return behind


def _behind(masks, mask):
    """The mask of all states to which those of a mask lead."""
    found = 0
    while mask > 0:
        number = mask.bit_length() - 1
        found = found | masks[number]
        mask = mask ^ (1 << number)
    return found


def _behind_each(masks):
    """The masks behind twice as many rounds."""
    # Many states lead to the same ones when there were many rounds.
    known = {}
    for mask in masks:
        if mask not in known:
            known[mask] = _behind(masks, mask)
    return [known[mask] for mask in masks]
