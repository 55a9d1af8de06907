"""Points 11 and 12: instructions that must be wrong, and those that are not needed."""

import itertools
import unittest

from helpers import ALL_FACINGS, CHARTS, LETTERED, check_repeated, raised, unknown_cells
from oldmap.errors import InvalidNumber, NoBeginning, TooMany, UnknownCell
from oldmap.following import places
from oldmap.islands import Island
from oldmap.maps import Map
from oldmap.readings import fewest_misread, leanest, misread_to, needless, places_misread, sharpness

ISLAND = Island(("..A", ".~.", "B.."))
SMALL = Island(("A.~",))
ROW = Island(("A" + "." * 11,))
WIDE = Island(("A" + "." * 11,) + ("." * 12,) * 11)

PACE = ("walk", 1, 1)
WITHOUT_BEGINNING = Map(ISLAND, "CD", ALL_FACINGS, [("walk", 0, 2), ("turn", (1,))])
WRONG_NUMBERS = (-1, -20, 21, 22, 10 ** 9, True, False)

# Twenty paces, of which eleven can be gone at most.
TWENTY = Map(ROW, "A", (1,), [PACE] * 20)

# Only "walk" and "beside" are needed.
BEHIND_B = Map(
    Island(("A.B.",)), "A", (1,), [("walk", 0, 3), ("near", "B", 1), ("beside", 2, "B"), ("turn", (2,))]
)

BEGINNING = CHARTS[:6] + (
    Map(LETTERED, "AEI", (1, 2), [("walk", 2, 3), ("until", "F"), ("turn", (1,)), ("beside", 0, "~"), ("walk", 1, 2)]),
    Map(LETTERED, "A", (3,), [PACE, PACE, ("turn", (2,)), PACE, ("toward", "D"), PACE]),
    Map(LETTERED, "DMP", (0, 2), [("shore", 1, 2, 3), ("near", "B", 1), ("shore", 3, 4, 4), ("until", "AI")]),
)


def sublists(length):
    """All ascending lists of indexes, the shortest first, those of one length in list order."""
    return [list(told) for many in range(length + 1) for told in itertools.combinations(range(length), many)]


class FewestMisread(unittest.TestCase):
    def test_charts_with_a_way(self):
        for chart in CHARTS[:4] + (Map(SMALL, "A", (1,), []), Map(SMALL, "A", (1,), [PACE])):
            with self.subTest(chart=chart.instructions):
                self.assertEqual(fewest_misread(chart), (0, []))

    def test_one_to_be_left_out(self):
        for instructions, index in (
            ([("until", "Z")], 0),
            ([PACE, ("until", "Z")], 1),
            ([PACE, PACE], 0),
            ([PACE, ("turn", (0,)), PACE], 0),
            ([("turn", (1,)), PACE], 0),
            ([PACE, ("near", "A", 0), ("turn", (2,)), PACE], 1),
            ([("near", "A", 0), PACE, ("near", "A", 0), ("turn", (2,)), ("near", "A", 0)], 1),
            ([PACE, ("near", "A", 0), ("near", "A", 0)], 0),
            ([("walk", 0, 1), ("near", "Z", 3), ("turn", (0, 1, 2, 3))], 1),
        ):
            with self.subTest(instructions=instructions):
                self.assertEqual(fewest_misread(Map(SMALL, "A", (1,), instructions)), (1, [index]))

    def test_several_to_be_left_out(self):
        chart = Map(SMALL, "A", (1,), [PACE, PACE, PACE, ("turn", (0,)), PACE])
        self.assertEqual(fewest_misread(chart), (3, [0, 1, 2]))
        chart = Map(SMALL, "A", (1,), [PACE, ("until", "Z"), ("near", "A", 0), ("until", "Z"), ("near", "A", 0)])
        self.assertEqual(fewest_misread(chart), (3, [0, 1, 3]))

    def test_all_to_be_left_out(self):
        chart = Map(SMALL, "A", (0, 1), [("until", "Z"), ("walk", 2, 20), ("toward", "Z"), ("near", "~", 0)])
        self.assertEqual(fewest_misread(chart), (4, [0, 1, 2, 3]))

    def test_twenty_instructions(self):
        self.assertEqual(fewest_misread(TWENTY), (9, list(range(9))))
        told = [("walk", 1, 11), ("until", "Z"), ("turn", ALL_FACINGS), ("shore", 3, 1, 20)] * 5
        self.assertEqual(fewest_misread(Map(WIDE, ".A", ALL_FACINGS, told)), (5, [1, 5, 9, 13, 17]))

    def test_against_all_lists(self):
        for chart in BEGINNING:
            with self.subTest(chart=chart.instructions):
                leading = [told for told in sublists(len(chart)) if places(chart.without(told))]
                self.assertEqual(fewest_misread(chart), (len(leading[0]), leading[0]))

    def test_no_beginning(self):
        raised(NoBeginning, fewest_misread, WITHOUT_BEGINNING)
        raised(NoBeginning, fewest_misread, Map(ISLAND, "C", (0,), []))
        raised(NoBeginning, fewest_misread, Map(Island(("~",)), ".", (0,), []))


class PlacesMisread(unittest.TestCase):
    def test_by_hand(self):
        chart = Map(Island(("A...",)), "A", (1,), [PACE, ("walk", 2, 2), ("near", ".", 0)])
        self.assertEqual(places_misread(chart, 0), [(0, 3)])
        self.assertEqual(places_misread(chart, 1), [(0, 1), (0, 2), (0, 3)])
        self.assertEqual(places_misread(chart, 2), [(0, 1), (0, 2), (0, 3)])
        for number in range(3, 21):
            self.assertEqual(places_misread(chart, number), [(0, 0), (0, 1), (0, 2), (0, 3)])

    def test_all_numbers(self):
        for number in range(21):
            with self.subTest(number=number):
                expected = [(0, paces) for paces in range(12) if 20 - paces <= number]
                self.assertEqual(places_misread(TWENTY, number), expected)

    def test_without_instructions(self):
        chart = Map(ISLAND, "AB", (0,), [])
        for number in range(21):
            self.assertEqual(places_misread(chart, number), [(0, 2), (2, 0)])

    def test_against_all_lists(self):
        for chart in BEGINNING:
            for number in range(21):
                with self.subTest(chart=chart.instructions, number=number):
                    lists = [told for told in sublists(len(chart)) if len(told) <= number]
                    expected = {cell for told in lists for cell in places(chart.without(told))}
                    self.assertEqual(places_misread(chart, number), sorted(expected))

    def test_wrong_numbers(self):
        for number in WRONG_NUMBERS:
            for chart in (TWENTY, CHARTS[1], WITHOUT_BEGINNING, Map(ISLAND, "A", (0,), [])):
                with self.subTest(chart=chart.instructions, number=number):
                    raised(InvalidNumber, places_misread, chart, number)

    def test_no_beginning(self):
        for number in (0, 1, 20):
            raised(NoBeginning, places_misread, WITHOUT_BEGINNING, number)


class MisreadTo(unittest.TestCase):
    def test_by_hand(self):
        chart = Map(Island(("A.~.", "..~.")), "A", (1,), [PACE, PACE, ("turn", (1,)), PACE])
        found = [misread_to(chart, cell) for cell in ((0, 0), (0, 1), (1, 0), (1, 1))]
        self.assertEqual(found, [3, 2, 2, 1])
        self.assertEqual(misread_to(chart.without([0]), (1, 1)), 0)

    def test_cells_that_cannot_be_reached(self):
        chart = Map(Island(("A.~.", "..~.")), "A", (1,), [PACE, PACE, ("turn", (1,)), PACE])
        self.assertIsNone(misread_to(chart, (0, 3)))
        self.assertIsNone(misread_to(chart, (1, 3)))
        self.assertIsNone(misread_to(Map(ISLAND, "A", (0,), []), (0, 1)))

    def test_twenty_instructions(self):
        for paces in range(12):
            self.assertEqual(misread_to(TWENTY, (0, paces)), 20 - paces)

    def test_against_all_lists(self):
        for chart in BEGINNING:
            reached = [(len(told), places(chart.without(told))) for told in sublists(len(chart))]
            for cell in LETTERED.cells:
                with self.subTest(chart=chart.instructions, cell=cell):
                    expected = min((number for number, cells in reached if cell in cells), default=None)
                    self.assertEqual(misread_to(chart, cell), expected)

    def test_unknown_cells(self):
        for chart in (CHARTS[1], Map(LETTERED, "Z", (0,), [("turn", (0,))])):
            for cell in unknown_cells(LETTERED):
                with self.subTest(chart=chart.instructions, cell=cell):
                    raised(UnknownCell, misread_to, chart, cell)

    def test_no_beginning(self):
        for cell in ISLAND.cells:
            raised(NoBeginning, misread_to, WITHOUT_BEGINNING, cell)


class Needless(unittest.TestCase):
    def test_none(self):
        self.assertEqual(needless(Map(Island(("A..",)), "A", (1,), [PACE, PACE])), [])
        self.assertEqual(needless(Map(ISLAND, "A", (1,), [])), [])

    def test_all(self):
        chart = Map(ISLAND, "A", (1,), [("turn", (1,)), ("near", "A", 0), ("turn", (0, 2))])
        self.assertEqual(needless(chart), [0, 1, 2])
        self.assertEqual(needless(Map(SMALL, "A", (1,), [("until", "Z"), ("until", "Z")])), [0, 1])

    def test_some(self):
        self.assertEqual(needless(BEHIND_B), [1, 3])

    def test_twenty_instructions(self):
        self.assertEqual(needless(Map(WIDE, "A", (1,), [("turn", (0,)), ("walk", 1, 1)] * 10)), list(range(0, 20, 2)))
        self.assertEqual(needless(TWENTY), list(range(20)))

    def test_against_charts_without_each(self):
        for chart in CHARTS + BEGINNING[6:]:
            with self.subTest(chart=chart.instructions):
                same = [index for index in range(len(chart)) if places(chart.without([index])) == places(chart)]
                self.assertEqual(needless(chart), same)

    def test_no_beginning(self):
        self.assertEqual(needless(WITHOUT_BEGINNING), [0, 1])
        self.assertEqual(needless(Map(ISLAND, "C", (1,), [])), [])


class Sharpness(unittest.TestCase):
    def test_by_hand(self):
        self.assertEqual(sharpness(BEHIND_B), [0, 0, 2, 0])
        chart = Map(Island(("A..",)), "A", (1,), [PACE, ("walk", 0, 1)])
        self.assertEqual(sharpness(chart), [1, 0])
        self.assertEqual(sharpness(Map(ISLAND, "A", (1,), [])), [])

    def test_charts_that_lead_nowhere(self):
        self.assertEqual(sharpness(Map(ISLAND, "A", (2, 3), [("walk", 0, 2), ("until", "C")])), [0, 5])
        self.assertEqual(sharpness(Map(ISLAND, "A", (2, 3), [("until", "C"), ("walk", 0, 2)])), [5, 0])
        self.assertEqual(sharpness(Map(ISLAND, "A", (2, 3), [("until", "C"), ("until", "C")])), [0, 0])
        self.assertEqual(sharpness(TWENTY), [0] * 20)
        self.assertEqual(sharpness(TWENTY.until(12)), [1] * 12)

    def test_against_charts_without_each(self):
        for chart in CHARTS + BEGINNING[6:]:
            with self.subTest(chart=chart.instructions):
                whole = set(places(chart))
                more = [len(set(places(chart.without([index]))) - whole) for index in range(len(chart))]
                self.assertEqual(sharpness(chart), more)

    def test_no_beginning(self):
        self.assertEqual(sharpness(WITHOUT_BEGINNING), [0, 0])


class Leanest(unittest.TestCase):
    def test_by_hand(self):
        self.assertEqual(leanest(BEHIND_B), [0, 2])
        self.assertEqual(leanest(Map(ISLAND, "A", (1,), [("turn", (1,)), ("near", "A", 0)])), [])
        self.assertEqual(leanest(Map(ISLAND, "A", (1,), [])), [])
        self.assertEqual(leanest(Map(Island(("A..",)), "A", (1,), [PACE, PACE])), [0, 1])

    def test_several_of_the_same_length(self):
        self.assertEqual(leanest(Map(Island(("A.~",)), "A", (1,), [("walk", 0, 1)] * 4)), [0])
        chart = Map(Island(("A..~",)), "A", (1,), [("turn", (0,)), ("walk", 0, 1), ("walk", 1, 1), ("walk", 1, 1)])
        self.assertEqual(leanest(chart.without([1])), [1, 2])
        chart = Map(Island(("A..",)), "A", (1,), [("walk", 0, 1), PACE, ("walk", 0, 1), ("near", "A", 1), PACE])
        self.assertEqual(leanest(chart), [1, 4])

    def test_charts_that_lead_nowhere(self):
        self.assertEqual(leanest(Map(SMALL, "A", (1,), [PACE, ("until", "Z"), ("until", "Y")])), [1])
        self.assertEqual(leanest(Map(SMALL, "A", (1,), [PACE, ("turn", (0,)), PACE])), [0, 2])

    def test_ten_and_eleven_instructions(self):
        self.assertEqual(leanest(TWENTY.until(10)), list(range(10)))
        self.assertEqual(leanest(Map(WIDE, "A", (1,), [("walk", 0, 2), ("turn", (0, 1))] * 5)), list(range(9)))
        for chart in (TWENTY.until(11), TWENTY, Map(ISLAND, "A", (1,), [("turn", (0,))] * 11)):
            raised(TooMany, leanest, chart)

    def test_against_all_lists(self):
        for chart in CHARTS + BEGINNING[6:]:
            with self.subTest(chart=chart.instructions):
                whole = places(chart)
                alone = [(told, [chart[index] for index in told]) for told in sublists(len(chart))]
                same = [told for told, kept in alone if places(chart.with_instructions(kept)) == whole]
                self.assertEqual(leanest(chart), same[0])

    def test_no_beginning(self):
        self.assertEqual(leanest(WITHOUT_BEGINNING), [])
        raised(TooMany, leanest, Map(ISLAND, "C", (1,), [PACE] * 11))


class RepeatedCalls(unittest.TestCase):
    def test_repeated_calls(self):
        for chart in BEGINNING:
            for call in (fewest_misread, needless, sharpness, leanest):
                check_repeated(self, call, chart)
            check_repeated(self, places_misread, chart, 2)
            check_repeated(self, misread_to, chart, (1, 2))


if __name__ == "__main__":
    unittest.main()
