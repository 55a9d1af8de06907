"""Following instructions of which some can be chosen, at a cost."""

from oldmap.leading import led_to


def least_choices(rows, stages, begins):
    """A dict from all states behind some stages to the least costs to come there, and the first choices that do so.

    A stage is a tuple of options, of which one is chosen. An option is a tuple (cost, instruction), with None for no
    instruction. Choices are a tuple of the indexes of the options that are chosen, for each stage.
    """
    found = {state: (0, ()) for state in begins}
    for stage in stages:
        found = _behind_stage(rows, stage, found)
    return found


def _behind_stage(rows, stage, found):
    behind = {}
    for index, (cost, instruction) in enumerate(stage):
        for state, (spent, choices) in found.items():
            told = (spent + cost, choices + (index,))
            for other in _led_by(rows, instruction, state):
                behind[other] = min(told, behind.get(other, told))
    return behind


def _led_by(rows, instruction, state):
    if instruction is None:
        return [state]
    return led_to(rows, instruction, state)
