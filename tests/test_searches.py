"""Point 25: a search, its operations and its properties."""

import unittest

from helpers import CHARTS, raised, spoil, unknown_cells
from oldmap.digs import WORDS, left_after
from oldmap.errors import (
    InvalidDig, InvalidMaps, InvalidName, InvalidRule, NoPlace, NoWay, UnknownCell, UnknownMark
)
from oldmap.islands import Island
from oldmap.maps import Map
from oldmap.searches import Search
from oldmap.walking import distance

# The cells of the last column cannot be come to from the others.
ISLAND = Island(("AB.~E", ".~C~.", "..D~F"))
PLAIN, ROWS, NEAR = ("plain",), ("rows",), ("near", 2)
RULES = (PLAIN, ROWS, NEAR, ("near", 1), ("near", 22))
WRONG_RULES = (("near", 0), ("near", 23), ("near", -1), ("near", True), ("near", 99))


def at(signs, *instructions):
    """A chart that begins at the cells with some signs."""
    return Map(ISLAND, signs, (0, 1, 2, 3), list(instructions))


EVERYWHERE = at(".ABCDEF")
NOWHERE = (at("A", ("walk", 3, 3)), at("Z"))


def state_of(search):
    """All that a search tells."""
    return [search.here, search.paces_walked, search.places_left, search.marks, search.history]


class Searching(unittest.TestCase):
    def holds(self, search, here=None, paces=None, left=None, marks=None, history=None):
        for told, expected in zip(state_of(search), (here, paces, left, marks, history)):
            if expected is not None:
                self.assertEqual(told, expected)

    def unchanged(self, search, kind, call, *told):
        """The error that a call raises, which must change nothing, also for a redo."""
        search.mark("z")
        search.undo()
        before = state_of(search)
        error = raised(kind, call, *told)
        self.assertEqual(state_of(search), before)
        self.assertIs(search.redo(), True)
        self.assertIs(search.undo(), True)
        self.assertEqual(state_of(search), before)
        return error


class Beginning(Searching):
    def test_the_beginning(self):
        for rule in RULES:
            for cell in ISLAND.cells:
                search = Search(at("ACE"), rule, cell)
                self.assertEqual(state_of(search), [cell, 0, ((0, 0), (0, 4), (1, 2)), [], []])

    def test_the_places_at_the_end(self):
        search = Search(at("A", ("walk", 1, 3)), PLAIN, (0, 0))
        self.assertEqual(search.places_left, ((0, 1), (0, 2), (1, 0), (2, 0)))
        self.assertIsInstance(search.places_left, tuple)

    def test_wrong_rules(self):
        for rule in WRONG_RULES:
            raised(InvalidRule, Search, EVERYWHERE, rule, (0, 0))

    def test_unknown_cells(self):
        for rule in RULES:
            for cell in unknown_cells(ISLAND):
                raised(UnknownCell, Search, EVERYWHERE, rule, cell)

    def test_charts_that_end_nowhere(self):
        for rule in RULES:
            for chart in NOWHERE:
                raised(NoWay, Search, chart, rule, (0, 0))

    def test_errors_in_order(self):
        for chart in NOWHERE + (EVERYWHERE,):
            raised(InvalidRule, Search, chart, ("near", 0), (0, 3))
            raised(InvalidRule, Search, chart, ("near", 0), (0, 0))
            raised(UnknownCell, Search, chart, PLAIN, (0, 3))


class Dig(Searching):
    def test_by_hand(self):
        search = Search(EVERYWHERE, ROWS, (1, 0))
        self.assertEqual(search.dig("level"), 2)
        self.holds(search, (1, 0), 0, ((1, 2), (1, 4)), [], [("dig", "level")])
        search = Search(EVERYWHERE, NEAR, (0, 0))
        self.assertEqual(search.dig("near"), 4)
        self.holds(search, (0, 0), 0, ((0, 1), (0, 2), (1, 0), (2, 0)), [], [("dig", "near")])
        self.assertEqual(search.walk((2, 0)), 2)
        self.assertEqual(search.dig("far"), 2)
        self.holds(search, (2, 0), 2, ((0, 1), (0, 2)))
        self.assertEqual(search.walk((0, 1)), 3)
        self.assertEqual(search.dig("found"), 1)
        self.holds(search, (0, 1), 5, ((0, 1),), [], [
            ("dig", "near"), ("walk", (2, 0)), ("dig", "far"), ("walk", (0, 1)), ("dig", "found")
        ])

    def test_each_rule_and_each_word(self):
        for rule in RULES:
            for cell in ISLAND.cells:
                for word in WORDS[rule[0]]:
                    search = Search(EVERYWHERE, rule, cell)
                    left = left_after(ISLAND, tuple(ISLAND.cells), rule, [(cell, word)])
                    with self.subTest(rule=rule, cell=cell, word=word):
                        if left:
                            self.assertEqual(search.dig(word), len(left))
                            self.assertEqual(state_of(search), [cell, 0, tuple(left), [], [("dig", word)]])
                        else:
                            self.unchanged(search, NoPlace, search.dig, word)

    def test_found_and_dug_again(self):
        search = Search(EVERYWHERE, PLAIN, (0, 0))
        self.assertEqual(search.dig("found"), 1)
        self.assertEqual(search.dig("found"), 1)
        self.unchanged(search, NoPlace, search.dig, "empty")
        search.walk((0, 1))
        self.assertEqual(search.dig("empty"), 1)
        self.unchanged(search, NoPlace, search.dig, "found")

    def test_wrong_words(self):
        words = sorted({word for words in WORDS.values() for word in words} | {"", "Found", "nothing"})
        for rule in RULES:
            for word in words:
                if word not in WORDS[rule[0]]:
                    search = Search(EVERYWHERE, rule, (0, 0))
                    self.assertEqual(self.unchanged(search, InvalidDig, search.dig, word).index, 0)

    def test_wrong_words_ahead_of_no_place(self):
        search = Search(at("A"), PLAIN, (0, 1))
        self.unchanged(search, NoPlace, search.dig, "found")
        self.assertEqual(self.unchanged(search, InvalidDig, search.dig, "north").index, 0)
        search.dig("empty")
        search.mark("a")
        self.assertEqual(self.unchanged(search, InvalidDig, search.dig, "level").index, 0)


class Walk(Searching):
    def test_by_hand(self):
        search = Search(EVERYWHERE, PLAIN, (0, 0))
        self.assertEqual(search.walk((2, 2)), 4)
        self.holds(search, (2, 2), 4, tuple(ISLAND.cells), [], [("walk", (2, 2))])
        self.assertEqual(search.walk((0, 1)), 3)
        self.holds(search, (0, 1), 7)
        self.assertEqual(search.walk((1, 0)), 2)
        self.holds(search, (1, 0), 9, tuple(ISLAND.cells), [], [
            ("walk", (2, 2)), ("walk", (0, 1)), ("walk", (1, 0))
        ])

    def test_to_the_present_cell(self):
        search = Search(EVERYWHERE, PLAIN, (0, 4))
        self.assertEqual(search.walk((0, 4)), 0)
        self.holds(search, (0, 4), 0, tuple(ISLAND.cells), [], [("walk", (0, 4))])
        self.assertIs(search.undo(), True)
        self.holds(search, history=[])

    def test_all_pairs(self):
        for one in ISLAND.cells:
            for other in ISLAND.cells:
                search = Search(EVERYWHERE, PLAIN, one)
                paces = distance(ISLAND, one, other)
                if paces is None:
                    self.unchanged(search, NoWay, search.walk, other)
                else:
                    self.assertEqual(search.walk(other), paces)
                    self.assertEqual(state_of(search)[:2], [other, paces])

    def test_cells_that_cannot_be_come_to(self):
        search = Search(EVERYWHERE, PLAIN, (0, 0))
        search.walk((1, 0))
        for cell in ((0, 4), (1, 4), (2, 4)):
            self.unchanged(search, NoWay, search.walk, cell)
        self.holds(search, (1, 0), 1, history=[("walk", (1, 0))])

    def test_unknown_cells(self):
        search = Search(EVERYWHERE, PLAIN, (0, 0))
        for cell in unknown_cells(ISLAND):
            self.unchanged(search, UnknownCell, search.walk, cell)

    def test_the_places_stay(self):
        search = Search(EVERYWHERE, ROWS, (1, 0))
        search.dig("north")
        left = search.places_left
        search.walk((2, 1))
        self.holds(search, left=left)


class Ask(Searching):
    def test_by_hand(self):
        search = Search(at("ABC"), PLAIN, (2, 0))
        other = at("ABE", ("turn", (0, 1)))
        self.assertEqual(search.ask(other), 2)
        self.holds(search, (2, 0), 0, ((0, 0), (0, 1)), [], [("ask", other)])
        self.assertEqual(search.ask(at("B")), 1)
        self.assertEqual(search.ask(at("B")), 1)
        self.holds(search, left=((0, 1),), history=[("ask", other), ("ask", at("B")), ("ask", at("B"))])

    def test_the_same_chart_and_one_of_an_equal_island(self):
        search = Search(at("AB"), PLAIN, (2, 0))
        self.assertEqual(search.ask(at("AB")), 2)
        self.assertEqual(search.ask(Map(Island(ISLAND.rows), "B", (0,), [])), 1)
        self.holds(search, left=((0, 1),))

    def test_another_island(self):
        search = Search(EVERYWHERE, PLAIN, (0, 0))
        for chart in CHARTS + (EVERYWHERE.turned(), Map(Island(("A",)), "A", (0,), [])):
            self.assertEqual(self.unchanged(search, InvalidMaps, search.ask, chart).index, 1)

    def test_no_place(self):
        search = Search(at("AB"), PLAIN, (2, 0))
        for chart in NOWHERE + (at("C"), at("CDEF")):
            self.unchanged(search, NoPlace, search.ask, chart)
        search.ask(at("A"))
        self.unchanged(search, NoPlace, search.ask, at("B"))

    def test_another_island_ahead_of_no_place(self):
        search = Search(at("AB"), PLAIN, (2, 0))
        for chart in CHARTS[5:]:
            self.assertEqual(self.unchanged(search, InvalidMaps, search.ask, chart).index, 1)


class Marks(Searching):
    def test_mark(self):
        search = Search(EVERYWHERE, PLAIN, (0, 0))
        self.assertIs(search.mark("b"), False)
        self.assertIs(search.mark("a"), False)
        self.assertIs(search.mark("b"), True)
        self.assertIs(search.mark("ab"), False)
        self.assertIs(search.mark("a"), True)
        self.holds(search, (0, 0), 0, tuple(ISLAND.cells), ["a", "ab", "b"], [
            ("mark", "b"), ("mark", "a"), ("mark", "b"), ("mark", "ab"), ("mark", "a")
        ])

    def test_names(self):
        search = Search(EVERYWHERE, PLAIN, (0, 0))
        names = [letter for letter in "abcdefghijklmnopqrstuvwxyz"] + ["abcdefgh", "zzzzzzzz", "undo", "az"]
        for name in names:
            self.assertIs(search.mark(name), False)
        self.holds(search, marks=sorted(names))

    def test_wrong_names(self):
        search = Search(EVERYWHERE, PLAIN, (0, 0))
        wrong = ["", "abcdefghi", "a" * 100, "A", "aB", "a1", "1", "a b", " ", "a ", " a", "a_", "-", "a\n", "\n"]
        for name in wrong + ["\xe4", "\xb5", "\u0430", "a\xdf", "abcdefg\xe9"]:
            with self.subTest(name=name):
                self.unchanged(search, InvalidName, search.mark, name)
        self.holds(search, marks=[])

    def test_go(self):
        search = Search(EVERYWHERE, ROWS, (1, 0))
        search.walk((0, 0))
        search.mark("a")
        search.walk((2, 0))
        search.dig("north")
        search.dig("north")
        self.holds(search, (2, 0), 3)
        self.assertEqual(search.go("a"), len(ISLAND.cells))
        self.holds(search, (0, 0), 1, tuple(ISLAND.cells), ["a"], [
            ("walk", (0, 0)), ("mark", "a"), ("walk", (2, 0)), ("dig", "north"), ("dig", "north"), ("go", "a")
        ])
        self.assertEqual(search.walk((0, 1)), 1)
        self.holds(search, (0, 1), 2)

    def test_go_to_a_mark_told_twice(self):
        search = Search(EVERYWHERE, ROWS, (1, 0))
        search.mark("a")
        search.dig("south")
        search.walk((2, 0))
        search.mark("a")
        search.dig("level")
        search.walk((0, 0))
        self.assertEqual(search.go("a"), 4)
        self.holds(search, (2, 0), 1, ((2, 0), (2, 1), (2, 2), (2, 4)), ["a"])

    def test_marks_stay_when_one_goes(self):
        search = Search(EVERYWHERE, ROWS, (1, 0))
        search.mark("a")
        search.dig("south")
        search.mark("b")
        search.walk((2, 1))
        search.mark("c")
        self.assertEqual(search.go("a"), 11)
        self.holds(search, (1, 0), 0, tuple(ISLAND.cells), ["a", "b", "c"])
        self.assertEqual(search.go("c"), 4)
        self.holds(search, (2, 1), 2, ((2, 0), (2, 1), (2, 2), (2, 4)), ["a", "b", "c"])
        self.assertEqual(search.go("b"), 4)
        self.assertEqual(search.go("b"), 4)
        self.holds(search, (1, 0), 0, history=[
            ("mark", "a"), ("dig", "south"), ("mark", "b"), ("walk", (2, 1)), ("mark", "c"),
            ("go", "a"), ("go", "c"), ("go", "b"), ("go", "b"),
        ])

    def test_a_mark_behind_a_go(self):
        search = Search(EVERYWHERE, ROWS, (1, 0))
        search.mark("a")
        search.dig("north")
        search.mark("b")
        search.go("a")
        self.assertIs(search.mark("b"), True)
        search.dig("south")
        self.assertEqual(search.go("b"), 11)

    def test_unknown_marks(self):
        search = Search(EVERYWHERE, PLAIN, (0, 0))
        for name in ("a", "", "A", "abcdefghi", "here"):
            self.unchanged(search, UnknownMark, search.go, name)
        search.mark("b")
        for name in ("a", "", "bb", "B"):
            self.unchanged(search, UnknownMark, search.go, name)

    def test_marks_that_were_undone(self):
        search = Search(EVERYWHERE, ROWS, (1, 0))
        search.mark("a")
        search.undo()
        self.unchanged(search, UnknownMark, search.go, "a")
        search.mark("a")
        search.dig("north")
        search.mark("a")
        search.undo()
        search.walk((0, 0))
        # The mark that was told first holds again.
        self.assertEqual(search.go("a"), 11)
        self.holds(search, (1, 0), 0, tuple(ISLAND.cells), ["a"])


class Properties(Searching):
    def test_new_lists(self):
        search = Search(EVERYWHERE, ROWS, (1, 0))
        search.mark("a")
        search.mark("b")
        search.dig("north")
        before = state_of(search)
        for told in (search.marks, search.history):
            spoil(told)
        search.history.clear()
        search.marks.append("c")
        self.assertEqual(state_of(search), before)
        self.assertIsNot(search.marks, search.marks)
        self.assertIsNot(search.history, search.history)
        raised(UnknownMark, search.go, "c")
        self.assertIs(search.undo(), True)
        self.holds(search, history=before[4][:-1])

    def test_lists_that_were_read_stay_as_they_are(self):
        search = Search(EVERYWHERE, ROWS, (1, 0))
        search.mark("a")
        marks, history, left = search.marks, search.history, search.places_left
        search.mark("b")
        search.dig("north")
        self.assertEqual([marks, history, left], [["a"], [("mark", "a")], tuple(ISLAND.cells)])

    def test_they_cannot_be_assigned(self):
        search = Search(EVERYWHERE, ROWS, (1, 0))
        for name in ("here", "paces_walked", "places_left", "marks", "history"):
            raised(AttributeError, setattr, search, name, 0)

    def test_searches_of_one_chart_know_nothing_of_each_other(self):
        one, other = Search(EVERYWHERE, ROWS, (1, 0)), Search(EVERYWHERE, ROWS, (1, 0))
        one.mark("a")
        one.dig("north")
        self.assertEqual(state_of(other), [(1, 0), 0, tuple(ISLAND.cells), [], []])
        raised(UnknownMark, other.go, "a")
        self.assertIs(other.undo(), False)

    def test_kinds_of_values(self):
        search = Search(EVERYWHERE, ROWS, (1, 0))
        self.assertIs(type(search.dig("north")), int)
        self.assertIs(type(search.walk((0, 0))), int)
        self.assertIs(type(search.ask(EVERYWHERE)), int)
        self.assertIs(type(search.mark("a")), bool)
        self.assertIs(type(search.go("a")), int)
        self.assertIs(type(search.undo()), bool)
        self.assertIs(type(search.redo()), bool)
        self.assertIs(type(search.redo()), bool)
        self.assertIs(type(search.apply_all([])), list)
        self.assertIs(type(search.tried([], False)), list)


if __name__ == "__main__":
    unittest.main()
