"""Point 26: undo and redo, lists of operations, and trials."""

import copy
import random
import unittest

from helpers import LETTERED, raised
from oldmap.digs import WORDS, left_after
from oldmap.errors import (
    InvalidDig, InvalidMaps, InvalidName, InvalidOperation, InvalidRule, MapError, NoPlace, NoWay, UnknownCell,
    UnknownMark,
)
from oldmap.following import places
from oldmap.islands import Island
from oldmap.maps import Map
from oldmap.searches import Search, Trial
from oldmap.walking import distance

ISLAND = Island(("AB.~E", ".~C~.", "..D~F"))
ROWS = ("rows",)


def at(signs):
    """A chart that ends at the cells with some signs."""
    return Map(ISLAND, signs, (0,), [])


EVERYWHERE = at(".ABCDEF")
OTHER_ISLAND = Map(LETTERED, "A", (0,), [])

# Each kind of operation, in an order in which all of them can be executed.
EACH = [
    ("mark", "a"), ("walk", (2, 0)), ("ask", at("ABCD")), ("dig", "north"), ("mark", "b"), ("go", "a"), ("mark", "a"),
    ("walk", (2, 2)), ("go", "b"),
]

# Operations that raise an error at each time, and the error.
WRONG = [
    (("dig", "empty"), InvalidDig), (("walk", (1, 1)), UnknownCell), (("walk", (0, 4)), NoWay),
    (("ask", OTHER_ISLAND), InvalidMaps), (("ask", at("Z")), NoPlace), (("mark", "A"), InvalidName),
    (("go", "d"), UnknownMark),
]

MALFORMED = [
    ("dig",), ("dig", "north", 1), ("walk",), ("walk", 0, 0), ("ask",), ("mark",), ("mark", "a", "b"), ("go",),
    ("undo", 1), ("redo", "a"), ("undo", ()), (), ("Dig", "north"), ("digs", "north"), ("", "north"), (0, 1), (None,),
    ((),), ([],), ("apply_all", []), ("tried", [], True), ("replay", []), ("here",), ("history",), ("hold",),
    ("_execute", 1, 2, 3),
    "undo", "", ["undo"], ["dig", "north"], None, 0, True, {"undo": 1}, {}, ("un", "do"), (("undo",),), (True,),
]


def new_search():
    return Search(EVERYWHERE, ROWS, (1, 0))


def state_of(search):
    """All that a search tells."""
    return [search.here, search.paces_walked, search.places_left, search.marks, search.history]


def whole_state(search):
    """All that a search tells, and all that it tells behind each undo and redo that is possible."""
    states = [state_of(search)]
    undone = 0
    while search.undo():
        undone += 1
        states.append(state_of(search))
    redone = 0
    while search.redo():
        redone += 1
        states.append(state_of(search))
    for _ in range(redone - undone):
        search.undo()
    return states


def execute(search, operation):
    word, *told = operation
    return getattr(search, word)(*told)


class Model:
    """A search that copies all it knows ahead of each operation, and executes what is redone."""

    def __init__(self, chart, rule, here):
        self.island, self.rule = chart.island, rule
        self.known = {"here": here, "paces": 0, "left": places(chart), "marks": {}, "history": []}
        self.past, self.future = [], []

    def told(self):
        known = self.known
        return [known["here"], known["paces"], tuple(known["left"]), sorted(known["marks"]), known["history"]]

    def execute(self, operation):
        word, *told = operation
        if word == "undo":
            if not self.past:
                return False
            self.future.append(self.known["history"][-1])
            self.known = self.past.pop()
            return True
        if word == "redo":
            if not self.future:
                return False
            future = self.future[:-1]
            self.execute(self.future[-1])
            self.future = future
            return True
        before = copy.deepcopy(self.known)
        try:
            result = getattr(self, word)(told[0])
        except MapError:
            self.known = before
            raise
        self.known["history"].append(operation)
        self.past.append(before)
        self.future = []
        return result

    def dig(self, told):
        known = self.known
        known["left"] = left_after(self.island, tuple(known["left"]), self.rule, [(known["here"], told)])
        return self.some_left()

    def walk(self, cell):
        paces = distance(self.island, self.known["here"], cell)
        if paces is None:
            raise NoWay()
        self.known["here"] = cell
        self.known["paces"] += paces
        return paces

    def ask(self, chart):
        if chart.island != self.island:
            raise InvalidMaps(1)
        self.known["left"] = [place for place in places(chart) if place in self.known["left"]]
        return self.some_left()

    def mark(self, name):
        if name == "A":
            raise InvalidName()
        known = name in self.known["marks"]
        self.known["marks"][name] = copy.deepcopy([self.known[word] for word in ("here", "paces", "left")])
        return known

    def go(self, name):
        if name not in self.known["marks"]:
            raise UnknownMark()
        marked = copy.deepcopy(self.known["marks"][name])
        self.known["here"], self.known["paces"], self.known["left"] = marked
        return len(marked[2])

    def some_left(self):
        if not self.known["left"]:
            raise NoPlace()
        return len(self.known["left"])


def outcome(call, *told):
    """What a call returns, or its error with what it has."""
    try:
        return call(*told)
    except MapError as error:
        return [error.__class__.__name__, vars(error)]


class UndoAndRedo(unittest.TestCase):
    def test_nothing_to_undo_or_redo(self):
        search = new_search()
        before = state_of(search)
        for _ in range(3):
            self.assertIs(search.undo(), False)
            self.assertIs(search.redo(), False)
            self.assertEqual(state_of(search), before)
        search.walk((0, 0))
        self.assertIs(search.redo(), False)
        self.assertIs(search.undo(), True)
        self.assertIs(search.undo(), False)
        self.assertIs(search.redo(), True)
        self.assertIs(search.redo(), False)
        self.assertEqual(search.history, [("walk", (0, 0))])

    def test_each_kind_of_operation(self):
        search = new_search()
        for number, operation in enumerate(EACH):
            before = state_of(search)
            execute(search, operation)
            behind = state_of(search)
            self.assertEqual(behind[4], EACH[:number + 1])
            with self.subTest(operation=operation):
                for _ in range(3):
                    self.assertIs(search.undo(), True)
                    self.assertEqual(state_of(search), before)
                    self.assertIs(search.redo(), True)
                    self.assertEqual(state_of(search), behind)
                self.assertIs(search.redo(), False)

    def test_several_undos_and_as_many_redos(self):
        search = new_search()
        states = [state_of(search)]
        for operation in EACH:
            execute(search, operation)
            states.append(state_of(search))
        for many in range(1, len(EACH) + 1):
            for number in range(many):
                self.assertIs(search.undo(), True)
                self.assertEqual(state_of(search), states[-2 - number])
            self.assertIs(search.undo(), many < len(EACH))
            if many < len(EACH):
                self.assertIs(search.redo(), True)
            for number in range(many):
                self.assertIs(search.redo(), True)
                self.assertEqual(state_of(search), states[len(EACH) - many + number + 1])
            self.assertIs(search.redo(), False)

    def test_a_redo_behind_another_operation(self):
        for operation in EACH[:5]:
            search = new_search()
            search.apply_all(EACH[:1] + [("walk", (0, 0)), ("dig", "south")])
            search.undo()
            search.undo()
            execute(search, operation)
            self.assertIs(search.redo(), False)
            self.assertEqual(search.history, EACH[:1] + [operation])

    def test_an_operation_that_is_equal_to_the_undone_one(self):
        search = new_search()
        search.walk((0, 0))
        search.dig("south")
        search.undo()
        search.undo()
        search.walk((0, 0))
        self.assertIs(search.redo(), False)
        self.assertEqual(search.history, [("walk", (0, 0))])

    def test_operations_that_raise_an_error(self):
        for operation, kind in WRONG:
            search = new_search()
            search.apply_all(EACH + [("walk", (0, 0)), ("undo",), ("undo",)])
            before = state_of(search)
            with self.subTest(operation=operation):
                raised(kind, execute, search, operation)
                self.assertEqual(state_of(search), before)
                self.assertEqual([search.redo(), search.redo(), search.redo()], [True, True, False])
                self.assertEqual(search.history, EACH + [("walk", (0, 0))])

    def test_a_mark_that_was_undone_and_redone(self):
        search = new_search()
        search.mark("a")
        search.undo()
        raised(UnknownMark, search.go, "a")
        search.redo()
        self.assertEqual(search.go("a"), len(ISLAND.cells))

    def test_more_than_a_hundred_operations(self):
        search = new_search()
        cells = [(0, 0), (0, 1), (0, 2), (1, 2), (2, 2), (2, 1), (2, 0), (1, 0)]
        for number in range(1, 1001):
            self.assertEqual(search.walk(cells[(number - 1) % 8]), 1)
        self.assertEqual([search.paces_walked, len(search.history)], [1000, 1000])
        for number in range(1000):
            self.assertIs(search.undo(), True)
        self.assertIs(search.undo(), False)
        self.assertEqual(state_of(search), state_of(new_search()))
        for number in range(1000):
            self.assertIs(search.redo(), True)
        self.assertEqual([search.paces_walked, len(search.history)], [1000, 1000])


class ApplyAll(unittest.TestCase):
    def test_results(self):
        search = new_search()
        results = [False, 1, 4, 3, False, 11, True, 3, 3]
        self.assertEqual(search.apply_all(EACH), results)
        self.assertEqual(search.history, EACH)
        one_by_one = new_search()
        self.assertEqual([execute(one_by_one, operation) for operation in EACH], results)
        self.assertEqual(whole_state(search), whole_state(one_by_one))

    def test_no_operations(self):
        search = new_search()
        search.walk((0, 0))
        search.undo()
        self.assertEqual(search.apply_all([]), [])
        self.assertIs(search.redo(), True)

    def test_undo_and_redo_among_them(self):
        search = new_search()
        told = search.apply_all([
            ("undo",), ("redo",), ("walk", (0, 0)), ("mark", "a"), ("undo",), ("undo",), ("undo",), ("redo",),
            ("redo",), ("redo",), ("undo",), ("dig", "level"), ("redo",),
        ])
        self.assertEqual(told, [
            False, False, 1, False, True, True, False, True, True, False, True, 3, False
        ])
        self.assertEqual(search.history, [("walk", (0, 0)), ("dig", "level")])
        self.assertEqual(search.apply_all([("undo",), ("undo",)]), [True, True])
        self.assertEqual(search.apply_all([("redo",), ("redo",), ("redo",)]), [True, True, False])

    def test_malformed_operations(self):
        for malformed in MALFORMED:
            for number in range(len(EACH) + 1):
                search = new_search()
                search.apply_all([("walk", (0, 0)), ("dig", "south"), ("undo",)])
                before = whole_state(search)
                operations = EACH[:number] + [malformed] + EACH[number:]
                with self.subTest(malformed=malformed, number=number):
                    for call in (search.apply_all, lambda told: search.tried(told, True)):
                        error = raised(InvalidOperation, call, operations + [malformed])
                        self.assertEqual(error.index, number)
                        self.assertEqual(whole_state(search), before)

    def test_malformed_operations_ahead_of_other_errors(self):
        for malformed in MALFORMED:
            for operation, _ in WRONG:
                search = new_search()
                self.assertEqual(raised(InvalidOperation, search.apply_all, [operation, malformed]).index, 1)
                self.assertEqual(raised(InvalidOperation, search.apply_all, [operation] * 9 + [malformed]).index, 9)

    def test_an_error_in_the_middle(self):
        for operation, kind in WRONG:
            for wrong_at in (0, 1, 4):
                search = new_search()
                search.apply_all(EACH + [("walk", (0, 0)), ("mark", "b"), ("undo",), ("undo",)])
                before = whole_state(search)
                operations = [("walk", (0, 1)), ("undo",), ("undo",), ("redo",)]
                operations = operations[:wrong_at] + [operation] + operations[wrong_at:]
                with self.subTest(operation=operation, wrong_at=wrong_at):
                    for call in (search.apply_all, lambda told: search.tried(told, True)):
                        error = raised(kind, call, operations)
                        if kind is InvalidDig:
                            self.assertEqual(error.index, 0)
                        if kind is InvalidMaps:
                            self.assertEqual(error.index, 1)
                        self.assertEqual(whole_state(search), before)
                    self.assertEqual([search.redo(), search.redo(), search.redo()], [True, True, False])

    def test_an_error_of_another_kind_in_the_middle(self):
        search = new_search()
        search.apply_all(EACH + [("undo",)])
        before = whole_state(search)
        for call in (search.apply_all, lambda told: search.tried(told, True)):
            try:
                call([("walk", (0, 0)), ("walk", None)])
            except TypeError:
                pass
            self.assertEqual(whole_state(search), before)

    def test_operations_stay_as_they_are(self):
        search = new_search()
        operations = list(EACH)
        results = search.apply_all(operations)
        self.assertEqual(operations, EACH)
        results.clear()
        operations.clear()
        self.assertEqual(search.history, EACH)

    def test_a_history_can_be_applied(self):
        search = new_search()
        search.apply_all(EACH)
        other = new_search()
        other.apply_all(search.history)
        self.assertEqual(whole_state(other), whole_state(search))
        # While a history is applied to the search itself, nothing is added to the list.
        search.apply_all(search.history)
        self.assertEqual(search.history, EACH + EACH)


class Replay(unittest.TestCase):
    def test_replay(self):
        for number in range(len(EACH) + 1):
            search = Search.replay(EVERYWHERE, ROWS, (1, 0), EACH[:number])
            self.assertIsInstance(search, Search)
            expected = new_search()
            expected.apply_all(EACH[:number])
            self.assertEqual(whole_state(search), whole_state(expected))

    def test_replay_with_undo_and_redo(self):
        operations = EACH + [("undo",), ("undo",), ("redo",)]
        search = Search.replay(EVERYWHERE, ROWS, (1, 0), operations)
        self.assertEqual(search.history, EACH[:-1])
        self.assertEqual([search.redo(), search.redo()], [True, False])

    def test_errors_of_a_search_first(self):
        malformed = EACH + [("dig",)]
        for operations in ([], EACH, malformed, [("walk", (1, 1))]):
            raised(InvalidRule, Search.replay, at("Z"), ("near", 0), (1, 1), operations)
            raised(UnknownCell, Search.replay, at("Z"), ROWS, (1, 1), operations)
            raised(NoWay, Search.replay, at("Z"), ROWS, (1, 0), operations)

    def test_then_those_of_apply_all(self):
        for operation, kind in WRONG:
            raised(kind, Search.replay, EVERYWHERE, ROWS, (1, 0), EACH + [operation])
            for malformed in MALFORMED:
                told = EACH + [operation, malformed]
                error = raised(InvalidOperation, Search.replay, EVERYWHERE, ROWS, (1, 0), told)
                self.assertEqual(error.index, len(EACH) + 1)


LISTS = ([], EACH, [("undo",)] * 20, [("redo",)], [("walk", (0, 0)), ("undo",)], EACH + [("undo",)] * 3)


class Trials(unittest.TestCase):
    def prepared(self):
        """A search with operations that can be undone and redone."""
        search = new_search()
        search.apply_all(EACH + [("undo",), ("undo",)])
        return search

    def test_not_held(self):
        for operations in LISTS:
            search = self.prepared()
            before = whole_state(search)
            with Trial(search) as trial:
                self.assertIsInstance(trial, Trial)
                search.apply_all(operations)
            self.assertEqual(whole_state(search), before)

    def test_held(self):
        for operations in LISTS:
            search, expected = self.prepared(), self.prepared()
            expected.apply_all(operations)
            with Trial(search) as trial:
                self.assertIsNone(trial.hold())
                search.apply_all(operations)
            self.assertEqual(whole_state(search), whole_state(expected))
            search = self.prepared()
            with Trial(search) as trial:
                search.apply_all(operations)
                trial.hold()
                trial.hold()
            self.assertEqual(whole_state(search), whole_state(expected))

    def test_an_error_that_leaves_the_block(self):
        for hold in (False, True):
            for kind in (KeyError, NoWay, TypeError, KeyboardInterrupt):
                search, expected = self.prepared(), self.prepared()
                if hold:
                    expected.walk((0, 0))
                error = kind()
                try:
                    with Trial(search) as trial:
                        search.walk((0, 0))
                        if hold:
                            trial.hold()
                        raise error
                except kind as caught:
                    self.assertIs(caught, error)
                else:
                    self.fail("the error did not go on")
                self.assertEqual(whole_state(search), whole_state(expected))

    def test_an_error_of_the_search_that_leaves_the_block(self):
        search = self.prepared()
        before = whole_state(search)
        with self.assertRaises(UnknownMark):
            with Trial(search):
                search.walk((0, 0))
                search.go("c")
        self.assertEqual(whole_state(search), before)

    def test_one_within_another(self):
        for outer_held in (False, True):
            for inner_held in (False, True):
                search, expected = self.prepared(), self.prepared()
                with Trial(search) as outer:
                    search.walk((0, 0))
                    with Trial(search) as inner:
                        search.mark("c")
                        if inner_held:
                            inner.hold()
                    self.assertEqual(search.marks, ["a", "b", "c"] if inner_held else ["a", "b"])
                    search.walk((0, 1))
                    if outer_held:
                        outer.hold()
                if outer_held:
                    kept = [("mark", "c")] if inner_held else []
                    expected.apply_all([("walk", (0, 0))] + kept + [("walk", (0, 1))])
                with self.subTest(outer_held=outer_held, inner_held=inner_held):
                    self.assertEqual(whole_state(search), whole_state(expected))

    def test_the_outer_one_is_held_within_the_inner_one(self):
        search = self.prepared()
        with Trial(search) as outer:
            search.walk((0, 0))
            with Trial(search):
                search.walk((0, 1))
                outer.hold()
        self.assertEqual(search.history, EACH[:-2] + [("walk", (0, 0))])

    def test_an_error_through_two_blocks(self):
        search = self.prepared()
        with self.assertRaises(NoPlace):
            with Trial(search) as outer:
                search.walk((0, 0))
                outer.hold()
                with Trial(search):
                    search.walk((0, 1))
                    search.ask(at("Z"))
        self.assertEqual(search.history, EACH[:-2] + [("walk", (0, 0))])

    def test_the_beginning_of_the_block_counts(self):
        search = new_search()
        trial = Trial(search)
        search.walk((0, 0))
        trial.hold()
        with trial as held:
            self.assertIs(held, trial)
            search.walk((0, 1))
        self.assertEqual(search.history, [("walk", (0, 0))])

    def test_two_blocks_of_one_trial(self):
        search = new_search()
        trial = Trial(search)
        with trial:
            search.walk((0, 0))
            trial.hold()
        with trial:
            search.walk((0, 1))
        self.assertEqual(search.history, [("walk", (0, 0))])

    def test_trials_of_two_searches(self):
        one, other = new_search(), new_search()
        with Trial(one) as trial, Trial(other):
            one.walk((0, 0))
            other.walk((2, 0))
            trial.hold()
        self.assertEqual([one.here, other.here], [(0, 0), (1, 0)])


class Tried(unittest.TestCase):
    def test_kept_and_not_kept(self):
        for operations in ([], EACH, [("undo",)] * 20, EACH + [("undo",), ("redo",), ("redo",)]):
            for keep in (False, True):
                search, expected = new_search(), new_search()
                search.apply_all(EACH[:3] + [("undo",)])
                expected.apply_all(EACH[:3] + [("undo",)])
                before = whole_state(expected)
                results = expected.apply_all(operations)
                self.assertEqual(search.tried(operations, keep), results)
                with self.subTest(operations=operations, keep=keep):
                    self.assertEqual(whole_state(search), whole_state(expected) if keep else before)

    def test_errors(self):
        for keep in (False, True):
            for operation, kind in WRONG:
                search = new_search()
                search.apply_all(EACH + [("undo",)])
                before = whole_state(search)
                raised(kind, search.tried, [("walk", (0, 0)), ("mark", "c"), operation, ("undo",)], keep)
                self.assertEqual(whole_state(search), before)
                error = raised(InvalidOperation, search.tried, [operation, ("dig",)], keep)
                self.assertEqual(error.index, 1)
                self.assertEqual(whole_state(search), before)


class AgainstTheModel(unittest.TestCase):
    def test_long_lists_of_operations(self):
        rules = [ROWS, ("plain",), ("near", 2)]
        charts = [EVERYWHERE, at("ABCD"), at(".ABEF"), at("CDEF"), at(".")]
        for seed in range(60):
            chance = random.Random(seed)
            rule = rules[seed % 3]
            search, model = Search(charts[0], rule, (1, 0)), Model(charts[0], rule, (1, 0))
            choices = [("undo",), ("redo",), ("undo",), ("redo",), ("ask", OTHER_ISLAND)]
            choices += [("walk", (1, 1)), ("mark", "A")]
            choices += [("walk", cell) for cell in ISLAND.cells] + [("ask", chart) for chart in charts]
            choices += [("mark", name) for name in "abc"] * 3 + [("go", name) for name in "abc"] * 4
            choices += [("dig", word) for word in WORDS[rule[0]] + ("else",)]
            for _ in range(150):
                operation = chance.choice(choices)
                self.assertEqual(outcome(execute, search, operation), outcome(model.execute, operation))
                self.assertEqual(state_of(search), model.told())
            self.assertGreater(len(whole_state(search)), 1)

    def test_replayed_histories(self):
        for seed in range(20):
            chance = random.Random(seed)
            operations = []
            search = new_search()
            for _ in range(40):
                operation = chance.choice(EACH + [("undo",), ("redo",), ("go", "a"), ("go", "b")])
                if not isinstance(outcome(execute, search, operation), list):
                    operations.append(operation)
            for told in (operations, search.history):
                other = Search.replay(EVERYWHERE, ROWS, (1, 0), told)
                self.assertEqual(state_of(other), state_of(search))


if __name__ == "__main__":
    unittest.main()
