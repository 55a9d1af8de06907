"""Steps from state to state, found once and used again by all charts of an island that are compared."""

from oldmap.leading import led_to


class Steps:
    """To which states instructions lead on an island of some rows."""

    def __init__(self, rows):
        self._rows = rows
        self._known = {}

    def behind(self, instruction, state):
        """The ascending list of the states to which an instruction leads from a state."""
        step = (instruction, state)
        if step not in self._known:
            self._known[step] = led_to(self._rows, instruction, state)
        return self._known[step]

    def layers(self, instructions, states):
        """The list of the ascending lists of states behind 0, 1, 2 .. instructions, beginning in some states."""
        found = [states]
        for instruction in instructions:
            states = sorted({other for state in states for other in self.behind(instruction, state)})
            found.append(states)
        return found

    def ends(self, instructions, states):
        """The ascending list of the states behind all of some instructions, beginning in some states."""
        return self.layers(instructions, states)[-1]
