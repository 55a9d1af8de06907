"""Point 30: daybooks."""

import unittest

from helpers import raised
from oldmap.daybooks import Daybook, _places_text
from oldmap.digs import WORDS, next_dig
from oldmap.errors import DaybookError, InvalidMap
from oldmap.notation import format_map, parse_map
from oldmap.searches import Search

# The cells of the last column cannot be come to from the others.
CHART = ["island", "AB.~E", ".~C~.", "..D~F", "from .ABCDEF south"]
PLAIN = CHART + ["search plain 1 0"]
ROWS = CHART + ["search rows 1 0"]
NEAR = CHART + ["search near 2 1 0"]
ALL_PLACES = "0,0 0,1 0,2 0,4 1,0 1,2 1,4 2,0 2,1 2,2 2,4"
QUERIES = ["places", "paces", "next"]

NO_NUMBERS = ["", "00", "01", "100", "+1", "-1", "-0", "1.", "x", "1a", "0x1", "~", "\u0661", "\xb2", "one", "1,0"]


def daybook(rows):
    return Daybook("\n".join(rows))


def state_of(search):
    """All that a search tells."""
    return [search.here, search.paces_walked, search.places_left, search.marks, search.history]


class Daybooks(unittest.TestCase):
    def holds(self, rows, *results):
        with self.subTest(rows=rows):
            self.assertEqual(daybook(rows).results, "\n".join(results))

    def test_no_entries(self):
        for rows, rule in ((PLAIN, ("plain",)), (ROWS, ("rows",)), (NEAR, ("near", 2))):
            self.holds(rows)
            self.assertEqual(daybook(rows).results, "")
            search = daybook(rows).search()
            self.assertIsInstance(search, Search)
            expected = Search(parse_map("\n".join(CHART)), rule, (1, 0))
            self.assertEqual(state_of(search), state_of(expected))
            self.assertEqual([search.undo(), search.redo()], [False, False])

    def test_each_kind_of_entry(self):
        self.holds(ROWS + ["dig north"], "4")
        self.holds(ROWS + ["walk 2 2"], "3")
        self.holds(ROWS + ["walk 1 0"], "0")
        self.holds(ROWS + ["undo"], "no")
        self.holds(ROWS + ["dig north", "undo", "undo"], "4", "yes", "no")
        self.holds(ROWS + ["places"], ALL_PLACES)
        self.holds(ROWS + ["paces"], "0")
        self.holds(ROWS + ["next"], "1,0")

    def test_entries_behind_each_other(self):
        self.holds(
            NEAR + QUERIES + ["dig near", "places", "walk 0 1", "paces", "next", "dig far", "places", "undo", "places"]
            + ["undo", "paces", "places", "undo", "places", "undo", "next"],
            ALL_PLACES, "0", "0,1", "5", "0,0 0,1 1,2 2,0 2,1", "2", "2", "0,0", "1", "2,0", "yes",
            "0,0 0,1 1,2 2,0 2,1", "yes", "0", "0,0 0,1 1,2 2,0 2,1", "yes", ALL_PLACES, "no", "0,1",
        )

    def test_each_word_of_a_dig(self):
        for rule, words in WORDS.items():
            begin = f"search {'near 1' if rule == 'near' else rule} 1 0"
            for word in words:
                search = Search(parse_map("\n".join(CHART)), ("near", 1) if rule == "near" else (rule,), (1, 0))
                self.holds(CHART + [begin, f"dig {word}"], str(search.dig(word)))

    def test_next(self):
        for rows, rule in ((PLAIN, ("plain",)), (ROWS, ("rows",)), (NEAR, ("near", 2))):
            for told in (["dig found"], ["walk 2 0", "dig found"], []):
                book = daybook(rows + told + ["next"])
                row, column = next_dig(parse_map("\n".join(CHART)).island, book.search().places_left, rule)
                self.assertEqual(book.results.split("\n")[-1], f"{row},{column}")

    def test_places_with_two_digits(self):
        rows = ["island"] + ["~~~~~~~~~~~~"] * 10 + ["~~~~~~~~~~..", "~~~~~~~~~~.A"]
        rows += ["from .A north", "search plain 11 11"]
        self.holds(rows + QUERIES, "10,10 10,11 11,10 11,11", "0", "10,10")
        told = ["walk 10 10", "paces", "dig empty", "places", "next"]
        self.holds(rows + told, "2", "2", "3", "10,11 11,10 11,11", "10,11")

    def test_no_places(self):
        # No search comes to this, as each one has a place left at any time.
        self.assertEqual(_places_text(()), "-")

    def test_results_is_a_property(self):
        self.assertIsInstance(vars(Daybook)["results"], property)
        self.assertIs(type(daybook(ROWS + QUERIES).results), str)

    def test_a_hundred_entries(self):
        self.holds(ROWS + ["walk 0 0", "walk 1 0"] * 50, *["1"] * 100)
        self.holds(ROWS + ["walk 0 0"] + ["undo"] * 99, "1", "yes", *["no"] * 98)
        book = daybook(ROWS + ["walk 0 0", "walk 1 0"] * 49 + ["paces", "places"])
        self.assertEqual(book.results.split("\n")[98:], ["98", ALL_PLACES])
        self.assertEqual(len(book.search().history), 98)

    def test_search(self):
        book = daybook(ROWS + ["dig north", "walk 0 0", "paces", "dig level", "undo", "undo", "next", "walk 0 2"])
        search = book.search()
        expected = Search(parse_map("\n".join(CHART)), ("rows",), (1, 0))
        expected.apply_all([("dig", "north"), ("walk", (0, 2))])
        self.assertEqual(state_of(search), state_of(expected))
        self.assertEqual([search.undo(), search.undo(), search.undo()], [True, True, False])

    def test_what_was_undone_last_can_be_redone(self):
        search = daybook(ROWS + ["dig north", "walk 0 0", "undo", "undo", "paces"]).search()
        self.assertEqual([search.redo(), search.redo(), search.redo()], [True, True, False])
        self.assertEqual(search.history, [("dig", "north"), ("walk", (0, 0))])

    def test_a_new_search_at_each_call(self):
        book = daybook(ROWS + ["dig north", "walk 0 0", "places"])
        one, other = book.search(), book.search()
        self.assertIsNot(one, other)
        before = state_of(other)
        one.mark("a")
        one.walk((1, 0))
        one.undo()
        one.undo()
        one.undo()
        self.assertEqual(state_of(other), before)
        self.assertEqual(state_of(book.search()), before)
        self.assertEqual(book.results, "4\n1\n0,0 0,1 0,2 0,4")

    def test_the_chart_of_the_search(self):
        search = daybook(PLAIN).search()
        self.assertEqual(search.ask(parse_map("\n".join(CHART))), 11)
        rows = format_map(parse_map("island\nA.B\nfrom A east\nwalk 1 2\nturn 0 2")).split("\n")
        self.holds(rows + ["search plain 0 0", "places"], "0,1 0,2")

    def test_repeated_calls(self):
        text = "\n".join(NEAR + QUERIES + ["dig near", "walk 0 0"] + QUERIES)
        one, other = Daybook(text), Daybook(text)
        self.assertEqual([one.results, one.results], [other.results, other.results])
        self.assertEqual(state_of(one.search()), state_of(other.search()))


class WrongTexts(unittest.TestCase):
    def fails(self, rows, row, word):
        with self.subTest(rows=rows):
            error = raised(DaybookError, daybook, rows)
            self.assertEqual((error.row, error.word), (row, word))

    def fails_behind(self, told, word):
        """Check a wrong row of an entry, at each place, alone and ahead of other wrong ones."""
        self.fails(ROWS + [told], 6, word)
        self.fails(ROWS + QUERIES + [told], 9, word)
        self.fails(ROWS + ["undo", told, "undo 1", "", "walk"], 7, word)
        # What the search and an entry raise comes behind all texts, as InvalidMap does.
        self.fails(CHART + ["search near 0 9 9", "dig level", told], 7, word)
        self.fails(CHART + ["turn 4", "search rows 1 0", told], 7, word)

    def test_no_text(self):
        self.fails([""], 0, 0)
        self.fails([" "], 0, 0)

    def test_wrong_texts_of_the_chart(self):
        for rows, row, word in (
            (["Island", "..A", "from A north"], 0, 0), (["island x", "..A", "from A north"], 0, 1), (["island"], 1, 0),
            (["island", "from A north"], 1, 0), (["island", "..a", "from A north"], 1, 0), (["island", "."], 2, 0),
            (["island", "..A", "..", "from A north"], 2, 0), (["island", "..A ", "from A north"], 1, 1), ([], 0, 0),
            (["island"] + ["."] * 13 + ["from A north"], 13, 0), (["island", "..A", "from A"], 2, 2),
            (["island", "..A", "from A up"], 2, 2), (["island", "..A", "from A north", "walk 1"], 3, 2),
            (["island", "..A", "from A north", "near A 1", ""], 4, 0), (["island", "..A", "from A north", "dig"], 3, 0),
            (["island", "..A", "from A north", "undo", "walk 0 0"], 3, 0), (["island"] + ["."] * 12, 13, 0),
        ):
            for more in (["search plain 0 0"], ["search"], ["search plain 0 0", "x"], ["search", "undo"]):
                self.fails(rows + more, row, word)
            if rows:
                self.fails(rows, row, word)

    def test_a_missing_row_of_the_search(self):
        self.fails(CHART, 5, 0)
        self.fails(CHART + ["walk 1 1", "turn 0"], 7, 0)
        # A walk to a cell is an instruction there, and what is none is wrong.
        self.fails(CHART + ["walk 1 1", "places"], 6, 0)
        self.fails(CHART + ["walk 1 1", "dig empty"], 6, 0)

    def test_wrong_rows_of_the_search(self):
        for told in ("Search plain 1 0", " search plain 1 0", "search\tplain 1 0", "searches plain 1 0", "seek"):
            self.fails(CHART + [told], 5, 0)
        for told, word in (
            ("search", 1), ("search ", 1), ("search plain", 2), ("search plain 1", 3), ("search near", 2),
            ("search near 2", 3), ("search near 2 1", 4), ("search rows", 2), ("search Plain 1 0", 1),
            ("search row 1 0", 1), ("search far 1 0", 1), ("search empty 1 0", 1), ("search 1 0", 1),
            ("search  plain 1 0", 1), ("search plain  1 0", 2), ("search plain 1  0", 3), ("search plain 1 0 ", 4),
            ("search plain 1 0 0", 4), ("search plain 2 1 0", 4), ("search rows 1 0 x", 4), ("search near 2 1 0 0", 5),
            ("search near 2 1 0 ", 5), ("search near plain 1 0", 2), ("search plain,rows 1 0", 1),
        ):
            for more in ([], ["undo"], [""], ["search plain 1 0"]):
                self.fails(CHART + [told] + more, 5, word)

    def test_numbers_of_the_search(self):
        for told in NO_NUMBERS:
            self.fails(CHART + [f"search plain {told} 0"], 5, 2)
            self.fails(CHART + [f"search rows 1 {told}"], 5, 3)
            self.fails(CHART + [f"search near {told} 1 0"], 5, 2)
            self.fails(CHART + [f"search near 2 {told} 0"], 5, 3)
            self.fails(CHART + [f"search near 2 1 {told}"], 5, 4)

    def test_unknown_entries(self):
        for told in ("x", "Dig north", "digs north", "search plain 1 0", "turn 0", "until A", "island", "redo"):
            self.fails_behind(told, 0)
        for told in ("", " ", " undo", "ask", "go a", "place", "pace", "UNDO", "from A north", "walks 0 0", "next\r"):
            self.fails_behind(told, 0)

    def test_digs(self):
        for told in ("", "North", "nothing", "plain", "rows", "founds", "0", "found\r", "\tempty", "west"):
            self.fails_behind(f"dig {told}", 1)
            self.fails_behind(f"dig {told} x", 1)
        self.fails_behind("dig", 1)
        for words in WORDS.values():
            for told in words:
                self.fails_behind(f"dig {told} ", 2)
                self.fails_behind(f"dig {told} {told}", 2)

    def test_walks(self):
        for told in NO_NUMBERS:
            self.fails_behind(f"walk {told} 0", 1)
            self.fails_behind(f"walk 0 {told}", 2)
            self.fails_behind(f"walk {told}", 1)
        for told, word in (("walk", 1), ("walk 0", 2), ("walk 0 0 0", 3), ("walk 0 0 ", 3), ("walk 0  0", 2)):
            self.fails_behind(told, word)

    def test_entries_of_one_word(self):
        for told in ("undo", "places", "paces", "next"):
            for more in (" ", "  ", " 1", " x", f" {told}", " 0 0"):
                self.fails_behind(told + more, 1)

    def test_the_hundred_and_first_entry(self):
        for told in ("undo", "walk 0 0", "dig found", "x", "", "undo 1", "walk", "dig x"):
            self.fails(ROWS + ["undo"] * 100 + [told], 106, 0)
            self.fails(ROWS + ["places"] * 100 + [told] * 50, 106, 0)
        self.fails(ROWS + ["undo"] * 99 + ["undo 1", "undo"], 105, 1)
        self.fails(ROWS + ["walk 9 9"] * 101, 106, 0)

    def test_the_first_wrong_word_counts(self):
        self.fails(["island", "..A", "..a", "from A north", "search", "x"], 2, 0)
        self.fails(["island", "..A", "from A north", "walk 1 x", "search", "x"], 3, 2)
        self.fails(["island", "..A", "from A north", "search", "x"], 3, 1)
        self.fails(["island", "..A", "from A north", "search plain 0 0", "walk x y", "x"], 4, 1)


class WrongCharts(unittest.TestCase):
    def fails(self, index, *rows):
        with self.subTest(rows=rows):
            self.assertEqual(raised(InvalidMap, daybook, ["island", "A.B"] + list(rows)).index, index)

    def test_invalid_maps(self):
        self.fails(-1, "from A north north", "search plain 0 0")
        self.fails(0, "from A north", "turn 4", "search plain 0 0")
        self.fails(1, "from A north", "turn 3", "walk 2 1", "search plain 0 0", "paces")
        self.fails(20, "from A north", *["turn 0"] * 21, "search plain 0 0")

    def test_ahead_of_what_the_search_and_entries_raise(self):
        for begin in ("search near 0 0 0", "search plain 9 9", "search plain 0 0"):
            for told in ("dig level", "walk 9 9", "undo"):
                self.fails(0, "from A north", "turn 4", begin, told)
                self.fails(-1, "from Z west north", begin, told)


class WrongSearches(unittest.TestCase):
    def fails(self, rows, row):
        with self.subTest(rows=rows):
            error = raised(DaybookError, daybook, rows)
            self.assertEqual((error.row, error.word), (row, 0))

    def test_what_the_search_raises(self):
        for told in ("near 0 1 0", "near 23 1 0", "near 99 1 0", "plain 0 3", "rows 3 0", "plain 99 99", "near 2 1 1"):
            for more in ([], ["undo"], ["walk 9 9"]):
                self.fails(CHART + [f"search {told}"] + more, 5)
                self.fails(CHART + ["turn 0", "walk 0 1", f"search {told}"] + more, 7)
        for more in ([], ["undo"], ["walk 9 9"]):
            self.fails(CHART + ["walk 9 9", "search plain 1 0"] + more, 6)
            self.fails(["island", "A.", "from Z north", "search plain 0 0"] + more, 3)

    def test_what_entries_raise(self):
        for told in ("walk 9 9", "walk 1 1", "walk 0 4", "walk 0 5", "walk 3 0", "dig empty", "dig near", "dig far"):
            self.fails(ROWS + [told], 6)
            self.fails(ROWS + QUERIES + ["dig north", told, "walk 99 99"], 10)
        for rows, told in ((PLAIN, "north"), (PLAIN, "near"), (PLAIN, "level"), (NEAR, "empty"), (NEAR, "south")):
            self.fails(rows + [f"dig {told}"], 6)
            self.fails(rows + ["undo", f"dig {told}", "dig found"], 7)

    def test_digs_that_leave_no_place(self):
        self.fails(ROWS + ["dig north", "dig south"], 7)
        self.fails(PLAIN + ["dig found", "paces", "dig empty"], 8)
        self.fails(PLAIN + ["paces"] * 98 + ["dig found", "dig empty"], 105)

    def test_the_first_one_counts(self):
        self.fails(ROWS + ["walk 0 0", "walk 1 1", "dig empty", "walk 9 9"], 7)
        self.fails(ROWS + ["walk 0 0", "dig empty", "walk 1 1"], 7)


if __name__ == "__main__":
    unittest.main()
