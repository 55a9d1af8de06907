"""Somebody who follows a chart, unseen."""

from oldmap.errors import NoBeginning, NoInstruction, NoWay
from oldmap.following import begin_states, cells_of
from oldmap.islands import require_land
from oldmap.leading import led_to
from oldmap.steps import Steps


class Walker:
    """Somebody of whom nothing is known but the chart, and where they were seen or missed."""

    def __init__(self, chart):
        self._chart = chart
        self._begins = begin_states(chart)
        if len(self._begins) == 0:
            raise NoBeginning("the chart begins nowhere")
        # From each state in which the walker can be now to the mask of the beginnings from which one comes to it:
        # an integer with a bit for each of them.
        self._now = {state: 1 << number for number, state in enumerate(self._begins)}
        self._done = 0
        self._records = []

    @property
    def done(self):
        """The number of instructions that are done."""
        return self._done

    @property
    def records(self):
        """A new list of all that was told, tuples (done, word, cells)."""
        return list(self._records)

    def step(self):
        """Let the next instruction be done; return how many states remain."""
        if self._done == len(self._chart):
            raise NoInstruction("all instructions are done")
        behind = {}
        for state, begins in self._now.items():
            for other in led_to(self._chart.island.rows, self._chart[self._done], state):
                behind[other] = behind.get(other, 0) | begins
        remaining = self._remain(behind)
        self._done += 1
        return remaining

    def seen(self, cells):
        """Tell that the walker is at one of some cells now; return how many states remain."""
        self._require_cells(cells)
        remaining = self._remain({state: begins for state, begins in self._now.items() if state[:2] in cells})
        self._records.append((self._done, "seen", tuple(cells)))
        return remaining

    def missed(self, cells):
        """Tell that the walker is at none of some cells now; return how many states remain."""
        self._require_cells(cells)
        remaining = self._remain({state: begins for state, begins in self._now.items() if state[:2] not in cells})
        self._records.append((self._done, "missed", tuple(cells)))
        return remaining

    def states_now(self):
        """The ascending list of the states in which the walker can be now."""
        return sorted(list(self._now))

    def begins_now(self):
        """The ascending list of the states in which the walker can have begun."""
        possible = 0
        for begins in self._now.values():
            possible = possible | begins
        return [state for number, state in enumerate(self._begins) if possible & (1 << number) != 0]

    def ends_now(self):
        """The ascending list of the cells at which the walker can be behind the last instruction."""
        rest = self._chart.instructions[self._done:]
        return cells_of(Steps(self._chart.island.rows).ends(rest, self.states_now()))

    def _require_cells(self, cells):
        for cell in cells:
            require_land(self._chart.island, cell)

    def _remain(self, states):
        """Let only some states remain, if there are any; return how many."""
        if len(states) == 0:
            raise NoWay("the walker could be nowhere")
        self._now = states
        return len(states)
