"""Points 17 and 18: what digs tell, what remains, and where to dig next."""

import unittest

from helpers import check_repeated, raised, unknown_cells
from oldmap.digs import fewest_digs, first_wrong, hint, left_after, next_dig
from oldmap.errors import InvalidDig, InvalidRule, TooMany, UnknownCell
from oldmap.islands import Island

PLAIN, ROWS = ("plain",), ("rows",)
RULES = (PLAIN, ROWS, ("near", 1), ("near", 2), ("near", 22))
WRONG_RULES = tuple(("near", most) for most in (0, 23, -1, 99, True, False))
WORDS = {"plain": ("found", "empty"), "rows": ("found", "north", "south", "level"), "near": ("found", "near", "far")}

ISLAND = Island(("..A", ".~.", "B.."))
PLACES = ((0, 0), (0, 2), (1, 2), (2, 1))
WIDE = Island(("." * 12,) * 12)
WITHOUT_LAND = Island(("~~",))
ROW = Island((".....",))


def groups(rule, cell, places):
    """The places by what a dig at a cell tells of them, without that where the dig finds it."""
    told = {}
    for place in places:
        told.setdefault(hint(rule, cell, place), []).append(place)
    told.pop("found", None)
    return list(told.values())


def brute_fewest(island, rule, places):
    """The fewest digs, by trying all cells that leave fewer places, again and again."""
    if not places:
        return 0
    found = []
    for cell in island.cells:
        left = groups(rule, cell, places)
        if places not in left:
            found.append(1 + max((brute_fewest(island, rule, group) for group in left), default=0))
    return min(found)


class Hint(unittest.TestCase):
    def test_plain(self):
        self.assertEqual(hint(PLAIN, (1, 2), (1, 2)), "found")
        for place in ((1, 1), (1, 3), (0, 2), (2, 2), (9, 9)):
            self.assertEqual(hint(PLAIN, (1, 2), place), "empty")

    def test_rows(self):
        for place, word in (
            ((4, 4), "found"),
            ((4, 3), "level"),
            ((4, 5), "level"),
            ((3, 4), "north"),
            ((0, 9), "north"),
            ((5, 4), "south"),
            ((11, 0), "south"),
        ):
            with self.subTest(place=place):
                self.assertEqual(hint(ROWS, (4, 4), place), word)

    def test_nearness_at_exactly_so_many_and_one_more(self):
        for most in (1, 2, 3, 21, 22):
            for rows in range(most + 1):
                with self.subTest(most=most, rows=rows):
                    rule = ("near", most)
                    self.assertEqual(hint(rule, (5, 5), (5 + rows, 5 + most - rows)), "near")
                    self.assertEqual(hint(rule, (5, 5), (5 - rows, 5 - most + rows)), "near")
                    self.assertEqual(hint(rule, (5, 5), (5 + rows, 5 + most + 1 - rows)), "far")
                    self.assertEqual(hint(rule, (5, 5), (5 - rows, 5 + most + 1 - rows)), "far")
                    self.assertEqual(hint(rule, (5, 5), (5 - rows - 1, 5 - most + rows)), "far")

    def test_found_by_each_rule(self):
        for rule in RULES:
            for cell in ((0, 0), (7, 3), (11, 11), (-4, 50)):
                self.assertEqual(hint(rule, cell, cell), "found")

    def test_farthest_cells(self):
        self.assertEqual(hint(("near", 22), (0, 0), (11, 11)), "near")
        self.assertEqual(hint(("near", 21), (0, 0), (11, 11)), "far")
        self.assertEqual(hint(("near", 1), (0, 0), (0, 1)), "near")
        self.assertEqual(hint(("near", 1), (0, 0), (1, 1)), "far")

    def test_cells_beyond_the_island(self):
        self.assertEqual(hint(PLAIN, (-1, 0), (99, 99)), "empty")
        self.assertEqual(hint(ROWS, (-1, 0), (-2, 5)), "north")
        self.assertEqual(hint(ROWS, (99, 0), (100, -7)), "south")
        self.assertEqual(hint(ROWS, (99, 0), (99, -7)), "level")
        self.assertEqual(hint(("near", 3), (-1, -1), (0, -3)), "near")
        self.assertEqual(hint(("near", 22), (-5, 0), (11, 7)), "far")

    def test_wrong_rules(self):
        for rule in WRONG_RULES:
            for place in ((0, 0), (0, 1), (99, 99)):
                with self.subTest(rule=rule):
                    raised(InvalidRule, hint, rule, (0, 0), place)


class Left(unittest.TestCase):
    def holds(self, rule, digs, left, wrong, places=PLACES):
        self.assertEqual(left_after(ISLAND, places, rule, digs), left)
        self.assertEqual(first_wrong(ISLAND, places, rule, digs), wrong)

    def test_no_dig(self):
        for rule in RULES:
            self.holds(rule, [], list(PLACES), None)

    def test_plain(self):
        self.holds(PLAIN, [((0, 0), "empty")], [(0, 2), (1, 2), (2, 1)], None)
        self.holds(PLAIN, [((0, 1), "empty")], list(PLACES), None)
        self.holds(PLAIN, [((0, 2), "found")], [(0, 2)], None)
        self.holds(PLAIN, [((0, 1), "found")], [], 0)
        self.holds(PLAIN, [((1, 2), "empty"), ((0, 0), "empty")], [(0, 2), (2, 1)], None)

    def test_rows(self):
        self.holds(ROWS, [((1, 0), "north")], [(0, 0), (0, 2)], None)
        self.holds(ROWS, [((1, 0), "level")], [(1, 2)], None)
        self.holds(ROWS, [((1, 0), "south")], [(2, 1)], None)
        self.holds(ROWS, [((0, 2), "level")], [(0, 0)], None)
        self.holds(ROWS, [((1, 0), "found")], [], 0)
        self.holds(ROWS, [((0, 0), "north")], [], 0)
        self.holds(ROWS, [((0, 0), "south"), ((2, 2), "north")], [(1, 2)], None)

    def test_near(self):
        self.holds(("near", 1), [((0, 1), "near")], [(0, 0), (0, 2)], None)
        self.holds(("near", 2), [((0, 1), "near")], [(0, 0), (0, 2), (1, 2), (2, 1)], None)
        self.holds(("near", 2), [((2, 2), "near")], [(0, 2), (1, 2), (2, 1)], None)
        self.holds(("near", 2), [((2, 2), "far")], [(0, 0)], None)
        self.holds(("near", 2), [((2, 1), "far")], [(0, 0), (0, 2)], None)
        self.holds(("near", 22), [((2, 2), "far")], [], 0)
        self.holds(("near", 1), [((2, 1), "found")], [(2, 1)], None)

    def test_the_same_dig_twice(self):
        self.holds(PLAIN, [((0, 0), "empty")] * 2, [(0, 2), (1, 2), (2, 1)], None)
        self.holds(PLAIN, [((0, 2), "found")] * 3, [(0, 2)], None)
        self.holds(ROWS, [((1, 0), "south"), ((1, 0), "south")], [(2, 1)], None)
        self.holds(ROWS, [((1, 0), "south"), ((1, 0), "north")], [], 1)
        self.holds(PLAIN, [((0, 2), "found"), ((0, 2), "empty")], [], 1)

    def test_none_left(self):
        digs = [(place, "empty") for place in PLACES]
        self.holds(PLAIN, digs, [], 3)
        self.holds(PLAIN, digs + [((0, 0), "empty")], [], 3)
        self.holds(PLAIN, digs[:3], [(2, 1)], None)
        self.holds(PLAIN, [((0, 1), "empty"), ((0, 0), "found"), ((0, 2), "found"), ((0, 1), "empty")], [], 2)

    def test_no_places(self):
        for rule in RULES:
            words = WORDS[rule[0]]
            self.holds(rule, [], [], None, ())
            for word in words:
                self.holds(rule, [((0, 0), word)], [], 0, ())
            self.holds(rule, [((0, 1), word) for word in words], [], 0, ())

    def test_each_word_against_hints(self):
        for rule in RULES:
            for cell in ISLAND.cells:
                for word in WORDS[rule[0]]:
                    with self.subTest(rule=rule, cell=cell, word=word):
                        left = [place for place in ISLAND.cells if hint(rule, cell, place) == word]
                        self.holds(rule, [(cell, word)], left, None if left else 0, tuple(ISLAND.cells))


class LeftErrors(unittest.TestCase):
    def fails(self, kind, places, rule, digs):
        for call in (left_after, first_wrong):
            with self.subTest(call=call.__name__, places=places, rule=rule, digs=digs):
                error = raised(kind, call, ISLAND, places, rule, digs)
                if kind is InvalidDig:
                    return error.index
        return None

    def test_wrong_rules(self):
        for rule in WRONG_RULES:
            self.fails(InvalidRule, PLACES, rule, [])
            self.fails(InvalidRule, (), rule, [((0, 0), "near")])

    def test_unknown_cells(self):
        for cell in unknown_cells(ISLAND):
            self.fails(UnknownCell, (cell,), PLAIN, [])
            self.fails(UnknownCell, PLACES[:2] + (cell,), ROWS, [((0, 0), "level")])
            self.fails(UnknownCell, PLACES, PLAIN, [(cell, "empty")])
            self.fails(UnknownCell, (), ("near", 2), [((0, 0), "far"), ((0, 0), "far"), (cell, "near")])

    def test_words_of_other_rules(self):
        all_words = sorted({word for words in WORDS.values() for word in words} | {"", "Found", "nothing"})
        for rule in RULES:
            for word in all_words:
                if word not in WORDS[rule[0]]:
                    digs = [((0, 0), known) for known in WORDS[rule[0]]]
                    for call in (left_after, first_wrong):
                        with self.subTest(rule=rule, word=word):
                            error = raised(InvalidDig, call, ISLAND, PLACES, rule, [((0, 0), word)] + digs)
                            self.assertEqual(error.index, 0)
                            error = raised(InvalidDig, call, ISLAND, (), rule, digs + [((0, 0), word)] * 2)
                            self.assertEqual(error.index, len(digs))

    def test_words_that_are_wrong_behind_one_that_leaves_nothing(self):
        digs = [((0, 1), "found"), ((0, 0), "empty"), ((0, 0), "level")]
        self.assertEqual(raised(InvalidDig, left_after, ISLAND, PLACES, PLAIN, digs).index, 2)
        self.assertEqual(raised(InvalidDig, first_wrong, ISLAND, PLACES, PLAIN, digs).index, 2)

    def test_two_and_three_at_once(self):
        wrong_place, wrong_rule = ((0, 0), (1, 1)), ("near", 0)
        wrong_cell, wrong_word = ((1, 1), "near"), ((0, 0), "level")
        self.fails(UnknownCell, wrong_place, wrong_rule, [])
        self.fails(UnknownCell, wrong_place, wrong_rule, [wrong_cell, wrong_word])
        self.fails(UnknownCell, wrong_place, ("near", 1), [wrong_word])
        self.fails(InvalidRule, PLACES, wrong_rule, [wrong_cell])
        self.fails(InvalidRule, PLACES, wrong_rule, [wrong_word])
        self.fails(InvalidRule, PLACES, wrong_rule, [wrong_cell, wrong_word])
        self.fails(UnknownCell, PLACES, ("near", 1), [wrong_word, wrong_cell])
        self.fails(UnknownCell, PLACES, ("near", 1), [((1, 1), "level")])
        self.assertEqual(self.fails(InvalidDig, PLACES, ("near", 1), [((0, 0), "near"), wrong_word, wrong_word]), 1)


class NextDig(unittest.TestCase):
    def test_by_hand(self):
        self.assertEqual(next_dig(ROW, ((0, 0), (0, 2), (0, 3)), PLAIN), (0, 0))
        self.assertEqual(next_dig(ROW, ((0, 2), (0, 3)), PLAIN), (0, 2))
        self.assertEqual(next_dig(ROW, ((0, 3),), PLAIN), (0, 3))
        self.assertEqual(next_dig(ROW, ((0, 0), (0, 4)), ("near", 1)), (0, 0))
        self.assertEqual(next_dig(ROW, ((0, 1), (0, 2), (0, 3), (0, 4)), ("near", 1)), (0, 1))

    def test_a_dig_at_a_cell_that_is_no_place(self):
        island = Island((".", ".", ".", "."))
        self.assertEqual(next_dig(island, ((0, 0), (2, 0), (3, 0)), ROWS), (2, 0))
        self.assertEqual(next_dig(Island(("..", "..", "..")), ((0, 0), (0, 1), (2, 0), (2, 1)), ROWS), (0, 0))
        island = Island(("...", "~.~", "...", "..."))
        self.assertEqual(next_dig(island, ((0, 0), (0, 1), (2, 0), (2, 1), (3, 0)), ROWS), (2, 0))
        self.assertEqual(next_dig(ROW, ((0, 1), (0, 2), (0, 3)), ("near", 1)), (0, 1))
        self.assertEqual(next_dig(ROW, ((0, 1), (0, 4)), ("near", 1)), (0, 0))
        island = Island(("..", "..", "~."))
        self.assertEqual(next_dig(island, ((0, 0), (0, 1), (2, 1)), ROWS), (0, 0))
        self.assertEqual(next_dig(island, ((0, 0), (1, 0), (1, 1), (2, 1)), ROWS), (1, 0))

    def test_the_first_of_several(self):
        places = ((0, 0), (0, 1), (2, 0), (2, 1))
        island = Island(("...", "...", "..."))
        self.assertEqual(next_dig(island, places, ROWS), (0, 0))
        self.assertEqual(next_dig(island, places + ((2, 2),), ROWS), (2, 0))
        self.assertEqual(next_dig(island, places[1:], PLAIN), (0, 1))

    def test_no_places(self):
        for rule in RULES:
            self.assertEqual(next_dig(ISLAND, (), rule), (0, 0))
            self.assertEqual(next_dig(Island(("~~", "~.")), (), rule), (1, 1))

    def test_an_island_without_land(self):
        for rule in RULES:
            self.assertIsNone(next_dig(WITHOUT_LAND, (), rule))

    def test_many_places(self):
        self.assertEqual(next_dig(WIDE, tuple(WIDE.cells), PLAIN), (0, 0))
        self.assertEqual(next_dig(WIDE, tuple(WIDE.cells), ROWS), (5, 0))

    def test_against_all_cells(self):
        for island in (ISLAND, ROW, Island(("...", ".~.", "~..", "..."))):
            cells = island.cells
            for places in (cells, cells[::2], cells[1::3], cells[-2:], cells[:5], cells[3:4]):
                for rule in RULES:
                    with self.subTest(rows=island.rows, places=places, rule=rule):
                        worst = [max(map(len, groups(rule, cell, places)), default=0) for cell in cells]
                        self.assertEqual(next_dig(island, tuple(places), rule), cells[worst.index(min(worst))])


class FewestDigs(unittest.TestCase):
    def test_by_hand(self):
        places = ((0, 0), (0, 1), (0, 2), (0, 3), (0, 4))
        self.assertEqual(fewest_digs(ROW, places, PLAIN), 5)
        self.assertEqual(fewest_digs(ROW, places, ROWS), 5)
        self.assertEqual(fewest_digs(ROW, places, ("near", 1)), 3)
        column = Island((".",) * 7)
        self.assertEqual(fewest_digs(column, tuple(column.cells), ROWS), 3)
        self.assertEqual(fewest_digs(column, tuple(column.cells), ("near", 22)), 7)

    def test_a_dig_at_a_cell_that_is_no_place(self):
        # With digs at the places alone, four would be needed.
        places = ((0, 0), (0, 2), (0, 4), (0, 6))
        self.assertEqual(fewest_digs(Island((".......",)), places, ("near", 1)), 3)
        self.assertEqual(fewest_digs(Island((".~.~.~.",)), places, ("near", 1)), 4)
        square = Island(("...", "...", "..."))
        self.assertEqual(fewest_digs(square, ((0, 0), (0, 2), (1, 1), (2, 0)), ("near", 1)), 3)

    def test_no_places_and_one(self):
        for rule in RULES:
            self.assertEqual(fewest_digs(ISLAND, (), rule), 0)
            self.assertEqual(fewest_digs(WITHOUT_LAND, (), rule), 0)
            for cell in ISLAND.cells:
                self.assertEqual(fewest_digs(ISLAND, (cell,), rule), 1)

    def test_nine_places_and_ten(self):
        nine = tuple(WIDE.cells[::17])
        self.assertEqual(len(nine), 9)
        self.assertEqual(fewest_digs(WIDE, nine, PLAIN), 9)
        self.assertEqual(fewest_digs(WIDE, nine, ROWS), 4)
        self.assertEqual(fewest_digs(WIDE, nine, ("near", 22)), 9)
        for rule in RULES:
            raised(TooMany, fewest_digs, WIDE, tuple(WIDE.cells[:10]), rule)
            raised(TooMany, fewest_digs, WIDE, tuple(WIDE.cells), rule)

    def test_against_all_digs(self):
        for island in (ISLAND, ROW, Island(("...", ".~.", "~..", "..."))):
            cells = island.cells
            for places in (cells[:5], cells[::2], cells[1::3], cells[-4:]):
                for rule in RULES:
                    with self.subTest(rows=island.rows, places=places, rule=rule):
                        expected = brute_fewest(island, rule, places)
                        self.assertEqual(fewest_digs(island, tuple(places), rule), expected)


class ChoosingErrors(unittest.TestCase):
    def test_wrong_rules(self):
        for rule in WRONG_RULES:
            for call in (next_dig, fewest_digs):
                raised(InvalidRule, call, ISLAND, PLACES, rule)
                raised(InvalidRule, call, ISLAND, (), rule)
                raised(InvalidRule, call, WITHOUT_LAND, (), rule)
                raised(InvalidRule, call, WIDE, tuple(WIDE.cells), rule)

    def test_unknown_cells(self):
        for cell in unknown_cells(ISLAND):
            for call in (next_dig, fewest_digs):
                raised(UnknownCell, call, ISLAND, (cell,), PLAIN)
                raised(UnknownCell, call, ISLAND, PLACES + (cell,), ROWS)
                raised(UnknownCell, call, ISLAND, (cell,), ("near", 0))
        raised(UnknownCell, next_dig, WITHOUT_LAND, ((0, 0),), PLAIN)

    def test_too_many_behind_the_others(self):
        raised(UnknownCell, fewest_digs, WIDE, tuple(WIDE.cells) + ((12, 0),), PLAIN)
        raised(InvalidRule, fewest_digs, WIDE, tuple(WIDE.cells), ("near", 23))
        raised(UnknownCell, fewest_digs, WIDE, tuple(WIDE.cells) + ((12, 0),), ("near", 23))


class RepeatedCalls(unittest.TestCase):
    def test_repeated_calls(self):
        digs = {"plain": [((0, 0), "empty")], "rows": [((1, 0), "north")], "near": [((0, 1), "near"), ((0, 1), "near")]}
        for rule in RULES:
            told = digs[rule[0]]
            check_repeated(self, hint, rule, (0, 0), (0, 2))
            check_repeated(self, left_after, ISLAND, PLACES, rule, told)
            check_repeated(self, left_after, ISLAND, PLACES, rule, [])
            check_repeated(self, first_wrong, ISLAND, PLACES, rule, told)
            check_repeated(self, next_dig, ISLAND, PLACES, rule)
            check_repeated(self, fewest_digs, ISLAND, PLACES, rule)


if __name__ == "__main__":
    unittest.main()
