"""Points 3 to 5: which charts there are, and what they can do."""

import unittest

from helpers import raised
from oldmap.errors import InvalidMap
from oldmap.islands import Island
from oldmap.maps import Map

ISLAND = Island(("A.~", "..B"))
LETTERS = "ABCDEFGHIJKLMNOPQRSTUVWXYZ"
TURN, WALK, UNTIL = ("turn", (0,)), ("walk", 1, 1), ("until", "B")

WRONG_SIGNS = ("", "~", ".~", "A~", "BA", "AA", "..", "A.", "a", "A#", " ", ".A B", "\u00c4")
WRONG_SIGNS_WITH_WATER = ("", "~~", "~A", "~.", "BA", "AA", "..", "A.", "A.~", "a", "#~", " ", "A ~")
WRONG_TURNS = (
    ((), (-1,), (4,), (0, 4), (-1, 0), (0, 1, 2, 3, 4))
    + ((1, 0), (1, 1), (0, 2, 1))
    + ((True,), (0, True), (False,), (False, 1))
)
WRONG_PACES = (
    ((-1, 3), (-2, -1), (0, 21), (20, 21), (21, 21))
    + ((3, 2), (1, 0))
    + ((True, 3), (0, True), (False, 0), (0, False))
)

GOOD = (
    [("turn", turns) for turns in ((0,), (1,), (2,), (3,), (0, 3), (1, 2), (0, 1, 2, 3))]
    + [("walk", least, most) for least, most in ((0, 0), (0, 20), (20, 20), (3, 4))]
    + [(word, signs) for word in ("until", "toward") for signs in (".", "A", "Z", ".Z", "AC", "." + LETTERS)]
    + [("beside", turn, signs) for turn in range(4) for signs in (".", "A", "~", ".~", "Z~", "." + LETTERS + "~")]
    + [("near", signs, most) for most in (0, 1, 22) for signs in (".", "A", "~", ".AZ~", "." + LETTERS + "~")]
    + [("shore", side, least, most) for side in (1, 3) for least, most in ((0, 0), (0, 20), (20, 20), (3, 4))]
)

WRONG = (
    [("turn", turns) for turns in WRONG_TURNS]
    + [("walk", least, most) for least, most in WRONG_PACES]
    + [(word, signs) for word in ("until", "toward") for signs in WRONG_SIGNS]
    + [("beside", turn, "A") for turn in (-1, 4, 99, True, False)]
    + [("beside", 0, signs) for signs in WRONG_SIGNS_WITH_WATER]
    + [("near", signs, 1) for signs in WRONG_SIGNS_WITH_WATER]
    + [("near", "A", most) for most in (-1, 23, 99, True, False)]
    + [("shore", side, 0, 1) for side in (-1, 0, 2, 4, True, False)]
    + [("shore", side, least, most) for side in (1, 3) for least, most in WRONG_PACES]
    + [("swim", 1, 1), ("Turn", (0,)), ("", "A")]
)


def chart_of(instructions):
    return Map(ISLAND, "A", (1,), instructions)


def wrong_index(signs, facings, instructions):
    return raised(InvalidMap, Map, ISLAND, signs, facings, instructions).index


class GoodCharts(unittest.TestCase):
    def test_good_instructions(self):
        for instruction in GOOD:
            with self.subTest(instruction=instruction):
                self.assertEqual(chart_of([instruction]).instructions, (instruction,))

    def test_good_beginnings(self):
        for signs in (".", "A", "Z", ".A", "AZ", "." + LETTERS):
            for facings in ((0,), (3,), (0, 3), (1, 2), (0, 1, 2, 3)):
                with self.subTest(signs=signs, facings=facings):
                    chart = Map(ISLAND, signs, facings, [])
                    self.assertEqual((chart.signs, chart.facings), (signs, facings))

    def test_properties(self):
        for instructions in ([TURN, WALK], (TURN, WALK)):
            chart = Map(ISLAND, ".A", (0, 2), instructions)
            self.assertEqual(chart.island, ISLAND)
            self.assertEqual(chart.signs, ".A")
            self.assertEqual(chart.facings, (0, 2))
            self.assertEqual(chart.instructions, (TURN, WALK))

    def test_length_and_indexes(self):
        chart = chart_of([TURN, WALK, UNTIL])
        self.assertEqual(len(chart), 3)
        self.assertEqual([chart[0], chart[1], chart[2]], [TURN, WALK, UNTIL])
        self.assertEqual(len(chart_of([])), 0)

    def test_twenty_instructions(self):
        self.assertEqual(len(chart_of([WALK] * 20)), 20)

    def test_cannot_be_iterated_over(self):
        with self.assertRaises(TypeError):
            iter(chart_of([WALK]))
        with self.assertRaises(TypeError):
            list(chart_of([WALK]))

    def test_the_list_of_the_caller_is_not_kept(self):
        instructions = [TURN, WALK]
        chart = chart_of(instructions)
        instructions.append(UNTIL)
        instructions[0] = UNTIL
        self.assertEqual(chart.instructions, (TURN, WALK))
        self.assertEqual(len(chart), 2)


class WrongCharts(unittest.TestCase):
    def test_wrong_signs(self):
        for signs in WRONG_SIGNS:
            with self.subTest(signs=signs):
                self.assertEqual(wrong_index(signs, (0,), []), -1)

    def test_wrong_facings(self):
        for facings in WRONG_TURNS:
            with self.subTest(facings=facings):
                self.assertEqual(wrong_index("A", facings, []), -1)

    def test_wrong_beginning_ahead_of_wrong_instructions(self):
        self.assertEqual(wrong_index("~", (0,), [("walk", 3, 2)]), -1)
        self.assertEqual(wrong_index("A", (4,), [("walk", 3, 2)]), -1)
        self.assertEqual(wrong_index("A", (), [WALK] * 21), -1)

    def test_wrong_instructions(self):
        for instruction in WRONG:
            with self.subTest(instruction=instruction):
                self.assertEqual(wrong_index("A", (0,), [instruction]), 0)
                self.assertEqual(wrong_index("A", (0,), (TURN, WALK, instruction, UNTIL)), 2)

    def test_first_of_several_wrong_instructions(self):
        self.assertEqual(wrong_index("A", (0,), [TURN, ("near", "A", 23), ("turn", ())]), 1)

    def test_twenty_one_instructions(self):
        self.assertEqual(wrong_index("A", (0,), [WALK] * 21), 20)
        self.assertEqual(wrong_index("A", (0,), [WALK] * 30), 20)
        self.assertEqual(wrong_index("A", (0,), [WALK] * 20 + [("turn", ())]), 20)

    def test_a_wrong_one_ahead_of_the_twenty_first(self):
        self.assertEqual(wrong_index("A", (0,), [WALK] * 7 + [("turn", ())] + [WALK] * 13), 7)
        self.assertEqual(wrong_index("A", (0,), [WALK] * 19 + [("turn", ()), WALK]), 19)
        self.assertEqual(wrong_index("A", (0,), [WALK] * 21 + [("turn", ())]), 20)


class OtherCharts(unittest.TestCase):
    def setUp(self):
        self.chart = Map(ISLAND, ".A", (0, 2), [TURN, WALK, UNTIL])

    def tearDown(self):
        self.assertEqual(self.chart, Map(ISLAND, ".A", (0, 2), [TURN, WALK, UNTIL]))

    def holds(self, chart, instructions):
        self.assertIsInstance(chart, Map)
        self.assertEqual(chart.instructions, instructions)
        self.assertEqual((chart.island, chart.signs, chart.facings), (ISLAND, ".A", (0, 2)))

    def test_more_instructions(self):
        self.holds(self.chart + [WALK, TURN], (TURN, WALK, UNTIL, WALK, TURN))
        self.holds(self.chart + (WALK,), (TURN, WALK, UNTIL, WALK))
        self.holds(self.chart + [], (TURN, WALK, UNTIL))
        self.holds(self.chart + [WALK] * 17, (TURN, WALK, UNTIL) + (WALK,) * 17)

    def test_more_instructions_that_are_wrong(self):
        for more, index in (([WALK, ("turn", ())], 4), ([("walk", 2, 1)], 3), ([WALK] * 18, 20)):
            with self.subTest(more=more):
                self.assertEqual(raised(InvalidMap, self.chart.__add__, more).index, index)

    def test_more_instructions_leave_the_list_as_it_is(self):
        more = [WALK]
        longer = self.chart + more
        self.assertEqual(more, [WALK])
        more.append(TURN)
        self.holds(longer, (TURN, WALK, UNTIL, WALK))

    def test_until(self):
        for number, instructions in (
            (0, ()),
            (1, (TURN,)),
            (2, (TURN, WALK)),
            (3, (TURN, WALK, UNTIL)),
            (4, (TURN, WALK, UNTIL)),
            (99, (TURN, WALK, UNTIL)),
            (-1, ()),
            (-2, ()),
            (-99, ()),
        ):
            with self.subTest(number=number):
                self.holds(self.chart.until(number), instructions)

    def test_without(self):
        for indexes, instructions in (
            ([], (TURN, WALK, UNTIL)),
            ([0], (WALK, UNTIL)),
            ([1], (TURN, UNTIL)),
            ((2,), (TURN, WALK)),
            ([2, 0], (WALK,)),
            ([0, 1, 2], ()),
            ([1, 1], (TURN, UNTIL)),
            ([3], (TURN, WALK, UNTIL)),
            ([-1, -3], (TURN, WALK, UNTIL)),
            ([99, 1, -1], (TURN, UNTIL)),
            ([True, False], (TURN, WALK, UNTIL)),
        ):
            with self.subTest(indexes=indexes):
                self.holds(self.chart.without(indexes), instructions)

    def test_without_leaves_the_list_as_it_is(self):
        indexes = [2, -1, 0]
        self.chart.without(indexes)
        self.assertEqual(indexes, [2, -1, 0])

    def test_with_instructions(self):
        self.holds(self.chart.with_instructions([WALK]), (WALK,))
        self.holds(self.chart.with_instructions((UNTIL, TURN)), (UNTIL, TURN))
        self.holds(self.chart.with_instructions([]), ())

    def test_with_instructions_that_are_wrong(self):
        for instructions, index in (([("turn", ())], 0), ([WALK, ("near", "A", 23)], 1), ([WALK] * 21, 20)):
            with self.subTest(instructions=instructions):
                self.assertEqual(raised(InvalidMap, self.chart.with_instructions, instructions).index, index)

    def test_turned(self):
        turned = self.chart.turned()
        self.assertEqual(turned, Map(Island((".A", "..", "B~")), ".A", (1, 3), [TURN, WALK, UNTIL]))

    def test_turned_facings_ascend(self):
        for facings, turned in (
            ((0,), (1,)),
            ((3,), (0,)),
            ((0, 3), (0, 1)),
            ((1, 2, 3), (0, 2, 3)),
            ((0, 1, 2, 3), (0, 1, 2, 3)),
        ):
            with self.subTest(facings=facings):
                self.assertEqual(Map(ISLAND, "A", facings, []).turned().facings, turned)

    def test_turned_four_times(self):
        self.assertEqual(self.chart.turned().turned().turned().turned(), self.chart)

    def test_equality(self):
        self.assertTrue(self.chart == Map(Island(("A.~", "..B")), ".A", (0, 2), (TURN, WALK, UNTIL)))
        self.assertFalse(self.chart != Map(ISLAND, ".A", (0, 2), [TURN, WALK, UNTIL]))
        for other in (
            Map(Island(("A.~", "..C")), ".A", (0, 2), [TURN, WALK, UNTIL]),
            Map(ISLAND, "A", (0, 2), [TURN, WALK, UNTIL]),
            Map(ISLAND, ".A", (0,), [TURN, WALK, UNTIL]),
            Map(ISLAND, ".A", (0, 2), [TURN, UNTIL, WALK]),
            Map(ISLAND, ".A", (0, 2), [TURN, WALK]),
        ):
            self.assertFalse(self.chart == other)
            self.assertTrue(self.chart != other)
        self.assertFalse(self.chart == (TURN, WALK, UNTIL))


if __name__ == "__main__":
    unittest.main()
