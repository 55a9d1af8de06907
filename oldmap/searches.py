"""Searching for the treasure of a chart, step by step, each of which can be undone."""

from oldmap.digs import left_after, require_rule
from oldmap.errors import InvalidMaps, InvalidName, InvalidOperation, NoPlace, NoWay, UnknownMark
from oldmap.following import places
from oldmap.islands import require_land
from oldmap.walking import distance

LETTERS = "abcdefghijklmnopqrstuvwxyz"
LONGEST_NAME = 8

# How many arguments each operation has that can stand in a list of operations.
ARGUMENTS = {"dig": 1, "walk": 1, "ask": 1, "mark": 1, "go": 1, "undo": 0, "redo": 0}


class Stage:
    """What holds behind an operation; it is not changed any more."""

    def __init__(self, operation, known, marked):
        self.operation = operation
        # The places that remain, the cell of the search, and its paces.
        self.known = known
        # A dict from the names of the marks to what was known there.
        self.marked = marked


class Trial:
    """A block in which what a search does is taken back at the end, unless it is held."""

    def __init__(self, search):
        self._search = search
        self._ahead = None
        self._held = None

    def hold(self):
        """Let what is done in this block stay."""
        self._held = True

    def __enter__(self):
        self._ahead = self._search._course
        self._held = None
        return self

    def __exit__(self, kind, value, trace):
        search = self._search
        if self._held is None:
            search._course = self._ahead


class Search:
    """A search for the treasure of a chart, by a rule of digging, from a cell on."""

    def __init__(self, chart, rule, here):
        require_rule(rule)
        require_land(chart.island, here)
        left = tuple(places(chart))
        if len(left) == 0:
            raise NoWay("the chart leads nowhere")
        self._island = chart.island
        self._rule = rule
        # All stages, those of undone operations included, and the index of the one that holds. The tuple is never
        # changed, only replaced, so that whoever keeps it can put all back.
        self._course = ((Stage(None, (left, here, 0), {}),), 0)

    @classmethod
    def replay(cls, chart, rule, here, operations):
        """A search after a list of operations."""
        search = cls(chart, rule, here)
        search.apply_all(operations)
        return search

    @property
    def here(self):
        """The cell where the search is."""
        _, cell, _ = self._stage().known
        return cell

    @property
    def paces_walked(self):
        """The number of all paces."""
        _, _, paces = self._stage().known
        return paces

    @property
    def places_left(self):
        """The ascending tuple of the places that remain."""
        left, _, _ = self._stage().known
        return left

    @property
    def marks(self):
        """A new ascending list of the names of all marks."""
        return sorted(list(self._stage().marked))

    @property
    def history(self):
        """A new list of all operations in effect."""
        stages, index = self._course
        return [stage.operation for stage in stages[1:index + 1]]

    def dig(self, told):
        """Tell what a dig here told; return how many places remain."""
        left, cell, _ = self._stage().known
        return self._narrowed(("dig", told), left_after(self._island, left, self._rule, [(cell, told)]))

    def walk(self, cell):
        """Walk to a cell by the fewest paces; return how many these are."""
        left, here, paces = self._stage().known
        more = distance(self._island, here, cell)
        if more is None:
            raise NoWay("one cannot walk there")
        self._execute(("walk", cell), (left, cell, paces + more), self._stage().marked)
        return more

    def ask(self, chart):
        """Take another chart of the same treasure; return how many places remain."""
        if chart.island != self._island:
            raise InvalidMaps(1)
        left, _, _ = self._stage().known
        ends = places(chart)
        return self._narrowed(("ask", chart), [place for place in left if place in ends])

    def mark(self, name):
        """Mark what is known with a name; return whether there was a mark with this name."""
        if not _is_name(name):
            raise InvalidName("a name has one to eight letters a to z")
        stage = self._stage()
        self._execute(("mark", name), stage.known, {**stage.marked, name: stage.known})
        return name in stage.marked

    def go(self, name):
        """Return to what was marked with a name last; return how many places there are."""
        stage = self._stage()
        if name not in stage.marked:
            raise UnknownMark("there is no such mark")
        left, _, _ = stage.marked[name]
        self._execute(("go", name), stage.marked[name], stage.marked)
        return len(left)

    def undo(self):
        """Undo the last operation that is in effect; return whether there was one."""
        stages, index = self._course
        if index == 0:
            return False
        self._course = (stages, index - 1)
        return True

    def redo(self):
        """Execute the operation that was undone last once more; return whether there was one."""
        stages, index = self._course
        if index == len(stages) - 1:
            return False
        # It comes to the same stage as before, as it is executed at the same one.
        self._course = (stages, index + 1)
        return True

    def apply_all(self, operations):
        """Execute all of some operations, or none; return the list of their results."""
        for index, operation in enumerate(operations):
            if not _is_operation(operation):
                raise InvalidOperation(index)
        results = []
        with Trial(self) as trial:
            for operation in operations:
                results.append(self._applied(operation))
            trial.hold()
        return results

    def tried(self, operations, keep):
        """Execute all of some operations, and take them back unless they are to be kept; return their results."""
        with Trial(self) as trial:
            results = self.apply_all(operations)
            if keep is True:
                trial.hold()
        return results

    def _stage(self):
        stages, index = self._course
        return stages[index]

    def _narrowed(self, operation, left):
        if len(left) == 0:
            raise NoPlace("no place is left for the treasure")
        _, cell, paces = self._stage().known
        self._execute(operation, (tuple(left), cell, paces), self._stage().marked)
        return len(left)

    def _execute(self, operation, known, marked):
        stages, index = self._course
        self._course = (stages[:index + 1] + (Stage(operation, known, marked),), index + 1)

    def _applied(self, operation):
        word, *told = operation
        if word == "dig":
            return self.dig(told[0])
        if word == "walk":
            return self.walk(told[0])
        if word == "ask":
            return self.ask(told[0])
        if word == "mark":
            return self.mark(told[0])
        if word == "go":
            return self.go(told[0])
        return self.undo() if word == "undo" else self.redo()


def _is_name(name):
    return 1 <= len(name) <= LONGEST_NAME and all([letter in LETTERS for letter in name])


def _is_operation(operation):
    if not isinstance(operation, tuple) or len(operation) == 0 or not isinstance(operation[0], str):
        return False
    return ARGUMENTS.get(operation[0]) == len(operation) - 1
