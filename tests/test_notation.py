"""Point 27: texts of charts."""

import unittest

from helpers import CHARTS, check_repeated, raised
from oldmap.errors import InvalidMap, InvalidText
from oldmap.islands import Island
from oldmap.maps import Map
from oldmap.notation import format_map, parse_map

ISLAND = Island(("..A", ".~B"))
ALL_LETTERS = ".ABCDEFGHIJKLMNOPQRSTUVWXYZ"
FULL = Map(ISLAND, ".AB", (0, 1, 2, 3), [
    ("turn", (0, 1, 2, 3)), ("walk", 0, 20), ("until", ".AZ"), ("toward", "B"), ("beside", 3, "AB~"), ("near", "~", 22),
    ("shore", 1, 0, 9), ("shore", 3, 10, 20), ("beside", 0, "."), ("near", ALL_LETTERS + "~", 0), ("turn", (2,)),
])
FULL_ROWS = [
    "island", "..A", ".~B", "from .AB north east south west", "turn 0 1 2 3", "walk 0 20", "until .AZ", "toward B",
    "beside 3 AB~", "near ~ 22", "shore 1 0 9", "shore 3 10 20", "beside 0 .", f"near {ALL_LETTERS}~ 0", "turn 2",
]

# Words that are no number, though some of them have digits.
NO_NUMBERS = [
    "", "00", "01", "09", "100", "007", "+1", "-1", "-0", "1.", ".1", "1_0", "x", "1a", "a1", "0x1", "~", "A",
    "\u0661", "\xb2", "1\r", "\t1", "one",
]
# Words that are no signs of land.
NO_SIGNS = ["", "~", "A~", "BA", "AA", "A.", "..", ".A.", "a", "Ab", "1", "A1", "*", "A,B", "\xc4", "A\r", "\t", "ABD~"]
# Words that are no signs at all.
NO_SIGNS_NOR_WATER = ["", "~A", "~~", "~.", "BA", "AA", "A.", "..", "a", "1", "A~B", ".~A", "*", "\xc4", "A\r"]


class Texts(unittest.TestCase):
    def test_format(self):
        self.assertEqual(format_map(FULL), "\n".join(FULL_ROWS))
        self.assertEqual(format_map(FULL.until(0)), "\n".join(FULL_ROWS[:4]))
        self.assertEqual(format_map(Map(Island(("~",)), "Q", (3,), [])), "island\n~\nfrom Q west")
        self.assertEqual(format_map(Map(Island((".",)), ".Z", (0, 2), [("turn", (1, 3))])), (
            "island\n.\nfrom .Z north south\nturn 1 3"
        ))

    def test_parse(self):
        chart = parse_map("\n".join(FULL_ROWS))
        self.assertEqual(chart, FULL)
        self.assertEqual(chart.island.rows, ("..A", ".~B"))
        self.assertEqual([chart.signs, chart.facings], [".AB", (0, 1, 2, 3)])
        self.assertEqual(chart.instructions, FULL.instructions)
        for number, instruction in enumerate(FULL.instructions):
            single = parse_map("\n".join(FULL_ROWS[:4] + [FULL_ROWS[4 + number]]))
            self.assertEqual(single.instructions, (instruction,))

    def test_facings(self):
        for facing, word in enumerate(("north", "east", "south", "west")):
            chart = Map(ISLAND, "A", (facing,), [])
            self.assertEqual(format_map(chart), f"island\n..A\n.~B\nfrom A {word}")
            self.assertEqual(parse_map(format_map(chart)).facings, (facing,))

    def test_charts_read_back(self):
        great = Map(Island(("............",) * 12), ALL_LETTERS, (1, 2), [("walk", 9, 10), ("near", "~", 10)] * 10)
        least = Map(Island(("~",)), ".", (0,), [])
        lettered = Island((ALL_LETTERS[:12], ALL_LETTERS[12:24], "YZ~~~~~~~~~~"))
        letters = Map(lettered, "XYZ", (3,), [("turn", (0,))] * 20)
        for chart in CHARTS + (FULL, great, least, letters):
            for facing in range(4):
                self.assertEqual(parse_map(format_map(chart)), chart)
                chart = chart.turned()

    def test_islands_of_all_sizes(self):
        for height in (1, 2, 11, 12):
            for width in (1, 2, 11, 12):
                chart = Map(Island((("A~." * 4)[:width],) * height), "A", (0,), [("walk", 1, 1)])
                self.assertEqual(parse_map(format_map(chart)), chart)

    def test_repeated_calls(self):
        for chart in CHARTS + (FULL,):
            check_repeated(self, format_map, chart)
            check_repeated(self, parse_map, format_map(chart))


class WrongTexts(unittest.TestCase):
    def fails(self, rows, row, word):
        with self.subTest(rows=rows):
            error = raised(InvalidText, parse_map, "\n".join(rows))
            self.assertEqual((error.row, error.word), (row, word))

    def fails_behind(self, told, word):
        """Check a wrong row of an instruction, at each place, alone and ahead of other wrong ones."""
        self.fails(FULL_ROWS[:4] + [told], 4, word)
        self.fails(FULL_ROWS + [told], len(FULL_ROWS), word)
        self.fails(FULL_ROWS[:6] + [told] + FULL_ROWS[6:], 6, word)
        self.fails(FULL_ROWS[:5] + [told, "", "walk"], 5, word)
        # InvalidMap, for an instruction ahead of it, comes behind all texts.
        self.fails(FULL_ROWS[:4] + ["turn 1 1", told], 5, word)

    def test_no_text(self):
        self.fails([""], 0, 0)
        self.fails(["", ""], 0, 0)
        self.fails([" "], 0, 0)

    def test_first_row(self):
        for told in ("", " ", "Island", "islands", "isl", " island", "from A north", "..A", "walk 1 1", "island\t"):
            self.fails([told] + FULL_ROWS[1:], 0, 0)
            self.fails([told], 0, 0)
        for told in ("island ", "island  ", "island island", "island ..A", "island 1 2"):
            self.fails([told] + FULL_ROWS[1:], 0, 1)
            self.fails([told], 0, 1)
        self.fails(FULL_ROWS[1:], 0, 0)

    def test_empty_rows(self):
        for number in range(len(FULL_ROWS) + 1):
            self.fails(FULL_ROWS[:number] + [""] + FULL_ROWS[number:], number, 0)
            self.fails(FULL_ROWS[:number] + [" "] + FULL_ROWS[number:], number, 0)
            self.fails(FULL_ROWS[:number] + [""], number, 0)

    def test_missing_rows(self):
        self.fails(["island"], 1, 0)
        self.fails(["island", "..A"], 2, 0)
        self.fails(["island", "..A", ".~B"], 3, 0)
        self.fails(["island", "..A", "walk 1 1"], 2, 0)
        self.fails(["island"] + ["."] * 12, 13, 0)
        self.fails(["island"] + ["."] * 11, 12, 0)

    def test_no_row_of_the_island(self):
        self.fails(["island", "from A north"], 1, 0)
        self.fails(["island", "from A north", "..A"], 1, 0)
        self.fails(["island", "from"], 1, 0)
        self.fails(["island", "island", "..A", "from A north"], 1, 0)

    def test_rows_of_the_island(self):
        wrong = ["", "..", "....", "..a", "..*", "..1", "..-", "..\xc4", "..\r", "..\t", "walk", "From", "froms"]
        for told in wrong + ["~~", "A", "walk 1 1", "turn 0", ". A", ".  A", " ..A", "..a x", ".. x", " ", "  "]:
            self.fails(["island", "..A", told, "from A north"], 2, 0)
            self.fails(["island", "..A", ".~B", told, "from A north"], 3, 0)
            self.fails(["island", "..A", told], 2, 0)
            self.fails(["island", "..A", told, "", "from"], 2, 0)

    def test_first_rows_of_the_island(self):
        for told in ("", " ", "a", "..a", "." * 13, "A" * 13, "." * 200, "..A*", "\xc4", "*", "1", "x y", " A", "\r"):
            self.fails(["island", told, "from A north"], 1, 0)
            self.fails(["island", told, told, "from A north"], 1, 0)
            self.fails(["island", told], 1, 0)

    def test_second_words_of_rows_of_the_island(self):
        for more in (" ", "  ", " x", " ..A", " from", " 1 2", "  ..A"):
            self.fails(["island", "..A" + more, "from A north"], 1, 1)
            self.fails(["island", "..A", ".~B" + more, "from A north"], 2, 1)
            self.fails(["island", "..A", ".~B" + more], 2, 1)
            self.fails(["island"] + ["."] * 11 + ["." + more, "from A north"], 12, 1)

    def test_a_thirteenth_row(self):
        for told in (".", "A", "", "..", "x", ". ", ". .", "~ x"):
            self.fails(["island"] + ["."] * 12 + [told, "from A north"], 13, 0)
            self.fails(["island"] + ["."] * 12 + [told], 13, 0)
            self.fails(["island"] + ["."] * 12 + [told, "", "from"], 13, 0)
        self.assertEqual(parse_map("\n".join(["island"] + ["."] * 12 + ["from A north"])).island.height, 12)

    def test_the_beginning(self):
        for told, word in (
            ("from", 1), ("from ", 1), ("from A", 2), ("from A ", 2), ("from  A north", 1), ("from A  north", 2),
            ("from A north ", 3), ("from A north  south", 3), ("from north", 1), ("from A North", 2), ("from A 0", 2),
            ("from A north 2", 3), ("from A north A", 3), ("from A B north", 2), ("from A norths", 2), ("from A n", 2),
            ("from north A", 1), ("from A north from", 3), ("from A east\r", 2), ("from A north east south west up", 6),
        ):
            self.fails(["island", "..A", told], 2, word)
            self.fails(["island", "..A", told, "walk 1 1"], 2, word)
            self.fails(["island", "..A", told, ""], 2, word)

    def test_signs_of_the_beginning(self):
        for told in NO_SIGNS:
            self.fails(["island", "..A", f"from {told} north"], 2, 1)
            self.fails(["island", "..A", f"from {told}"], 2, 1)
            self.fails(["island", "..A", f"from {told} up", ""], 2, 1)

    def test_unknown_first_words(self):
        for told in ("x", "Walk 1 1", "walks 1 1", "island", "from A north", "..A", "1", "dig", "search plain 0 0"):
            self.fails_behind(told, 0)
        for told in (" walk 1 1", "  walk 1 1", " ", "walk\t1 1", "\twalk 1 1", "turn\r", ""):
            self.fails_behind(told, 0)

    def test_numbers(self):
        for told in NO_NUMBERS:
            self.fails_behind(f"walk {told} 1", 1)
            self.fails_behind(f"walk 1 {told}", 2)
            self.fails_behind(f"turn {told}", 1)
            self.fails_behind(f"turn 0 1 {told}", 3)
            self.fails_behind(f"turn 0 {told} 1", 2)
            self.fails_behind(f"beside {told} A", 1)
            self.fails_behind(f"near A {told}", 2)
            self.fails_behind(f"shore {told} 1 1", 1)
            self.fails_behind(f"shore 1 {told} 1", 2)
            self.fails_behind(f"shore 1 1 {told}", 3)

    def test_signs(self):
        for told in NO_SIGNS:
            self.fails_behind(f"until {told}", 1)
            self.fails_behind(f"toward {told}", 1)
        for told in NO_SIGNS_NOR_WATER:
            self.fails_behind(f"beside 1 {told}", 2)
            self.fails_behind(f"near {told} 1", 1)

    def test_missing_words(self):
        for whole in ("turn 0", "walk 1 2", "until A", "toward A", "beside 1 A", "near A 1", "shore 1 1 2"):
            words = whole.split(" ")
            for many in range(1, len(words)):
                self.fails_behind(" ".join(words[:many]), many)
                # An empty word stands where the missing one would.
                self.fails_behind(" ".join(words[:many]) + " ", many)

    def test_superfluous_words(self):
        for whole in ("walk 1 2", "until A", "toward A", "beside 1 A", "near A 1", "shore 1 1 2"):
            many = len(whole.split(" "))
            for more in (" ", "  ", " 1", " A", " 1 2 3", " x"):
                self.fails_behind(whole + more, many)
        self.fails_behind("turn 0 1 ", 3)
        self.fails_behind("turn 0 1 A", 3)

    def test_two_spaces(self):
        for told, word in (
            ("turn  0", 1), ("turn 0  1", 2), ("walk  1 1", 1), ("walk 1  1", 2), ("until  A", 1), ("beside 1  A", 2),
            ("near A  1", 2), ("near  A 1", 1), ("shore 1 1  1", 3), ("walk 1   1", 2),
        ):
            self.fails_behind(told, word)

    def test_the_first_wrong_word_counts(self):
        self.fails(["Island", "..a", "from", "walk"], 0, 0)
        self.fails(["island", "..A", "..a", "from", "walk"], 2, 0)
        self.fails(["island", "..A", "from", "walk x"], 2, 1)
        self.fails(["island", "..A", "from A north", "walk x y z"], 3, 1)
        self.fails(["island", "..A", "from A north", "walk 1 y z"], 3, 2)
        self.fails(["island", "..A", "from A north", "walk 1 1 z", "x"], 3, 3)


class WrongCharts(unittest.TestCase):
    def fails(self, index, begin, *rows):
        with self.subTest(begin=begin, rows=rows):
            text = "\n".join(["island", "..A", begin] + list(rows))
            self.assertEqual(raised(InvalidMap, parse_map, text).index, index)

    def test_facings(self):
        for told in ("north north", "east north", "west south", "north south east", "north east south west north"):
            self.fails(-1, f"from A {told}")
            self.fails(-1, f"from A {told}", "turn 4")

    def test_instructions(self):
        for told in (
            "turn 4", "turn 0 0", "turn 1 0", "turn 99", "turn 0 1 2 3 4", "turn 0 1 2 3 0", "turn 0 1 2 3 3 3",
            "walk 2 1", "walk 0 21", "walk 21 21", "walk 99 99", "beside 4 A", "beside 99 ~", "near A 23", "near ~ 99",
            "shore 0 1 1", "shore 2 1 1", "shore 4 1 1", "shore 1 2 1", "shore 3 0 21", "shore 99 1 1",
        ):
            self.fails(0, "from A north", told)
            self.fails(2, "from A north", "walk 1 1", "turn 0", told, "turn 1", "turn 9")

    def test_the_twenty_first_instruction(self):
        self.fails(20, "from A north", *["walk 1 1"] * 21)
        self.fails(20, "from A north", *["walk 1 1"] * 40)
        self.fails(19, "from A north", *["walk 1 1"] * 19, "turn 4", "walk 1 1", "walk 1 1")
        self.fails(20, "from A north", *["walk 1 1"] * 20, "turn 4")

    def test_texts_ahead_of_charts(self):
        for rows, row, word in (
            (["from A north north", "walk"], 3, 1),
            (["from A north", "turn 4", "walk 1 x"], 4, 2),
            (["from A north"] + ["walk 1 1"] * 21 + ["walk 1 1 "], 24, 3),
            (["from A north"] + ["turn 4"] * 30 + ["near A"], 33, 2),
        ):
            error = raised(InvalidText, parse_map, "\n".join(["island", "..A"] + rows))
            self.assertEqual((error.row, error.word), (row, word))


if __name__ == "__main__":
    unittest.main()
