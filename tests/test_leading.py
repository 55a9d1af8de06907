"""Points 3 and 4: to which states each kind of instruction leads."""

import unittest

from helpers import led
from oldmap.leading import led_to

CROSS = (".B.", "CAD", ".E.")
CROSS_SIGNS = "BDEC"
WIDE = ("..B..", ".....", "C.A.C", ".....", "..D..")


class EachOnce(unittest.TestCase):
    def test_states_ascend_and_stand_once(self):
        square = ("..", "..")
        self.assertEqual(led_to(square, ("turn", (1, 2)), (0, 0, 2)), [(0, 0, 0), (0, 0, 3)])
        self.assertEqual(led_to(("....",), ("walk", 1, 3), (0, 3, 3)), [(0, 0, 3), (0, 1, 3), (0, 2, 3)])
        self.assertEqual(led_to(square, ("toward", "."), (1, 1, 2)), [(1, 1, 0), (1, 1, 3)])
        outside = [(0, 0, 0), (0, 0, 1), (0, 1, 1), (1, 0, 3), (1, 1, 2)]
        self.assertEqual(led_to(square, ("shore", 3, 0, 20), (0, 0, 1)), outside)


class Turn(unittest.TestCase):
    def test_single_turns(self):
        for facing in range(4):
            for turn in range(4):
                with self.subTest(facing=facing, turn=turn):
                    expected = [(0, 0, (facing + turn) % 4)]
                    self.assertEqual(led(("A",), facing, ("turn", (turn,))), expected)

    def test_several_turns(self):
        self.assertEqual(led(("A",), 1, ("turn", (0, 3))), [(0, 0, 0), (0, 0, 1)])
        self.assertEqual(led(("A",), 3, ("turn", (0, 1))), [(0, 0, 0), (0, 0, 3)])
        self.assertEqual(led(("A",), 2, ("turn", (1, 2))), [(0, 0, 0), (0, 0, 3)])
        self.assertEqual(led(("A",), 2, ("turn", (0, 1, 2, 3))), [(0, 0, 0), (0, 0, 1), (0, 0, 2), (0, 0, 3)])


class Walk(unittest.TestCase):
    def test_all_numbers_from_least_to_most(self):
        row = ("A......",)
        self.assertEqual(led(row, 1, ("walk", 1, 3)), [(0, 1, 1), (0, 2, 1), (0, 3, 1)])
        self.assertEqual(led(row, 1, ("walk", 2, 2)), [(0, 2, 1)])
        self.assertEqual(led(row, 1, ("walk", 0, 1)), [(0, 0, 1), (0, 1, 1)])
        self.assertEqual(led(row, 1, ("walk", 0, 0)), [(0, 0, 1)])

    def test_each_facing(self):
        self.assertEqual(led(WIDE, 0, ("walk", 1, 1)), [(1, 2, 0)])
        self.assertEqual(led(WIDE, 1, ("walk", 1, 1)), [(2, 3, 1)])
        self.assertEqual(led(WIDE, 2, ("walk", 1, 1)), [(3, 2, 2)])
        self.assertEqual(led(WIDE, 3, ("walk", 1, 1)), [(2, 1, 3)])

    def test_up_to_the_end_of_the_island(self):
        for facing, end in ((0, (0, 2, 0)), (1, (2, 4, 1)), (2, (4, 2, 2)), (3, (2, 0, 3))):
            with self.subTest(facing=facing):
                self.assertEqual(led(WIDE, facing, ("walk", 2, 20)), [end])
                self.assertEqual(led(WIDE, facing, ("walk", 3, 20)), [])

    def test_up_to_water(self):
        self.assertEqual(led(("A..~.",), 1, ("walk", 0, 9)), [(0, 0, 1), (0, 1, 1), (0, 2, 1)])
        self.assertEqual(led(("A..~.",), 1, ("walk", 2, 4)), [(0, 2, 1)])
        self.assertEqual(led(("A~",), 1, ("walk", 0, 1)), [(0, 0, 1)])

    def test_water_ahead_of_the_least_number(self):
        self.assertEqual(led(("A..~.",), 1, ("walk", 3, 4)), [])
        self.assertEqual(led(("A..~.",), 1, ("walk", 4, 4)), [])
        self.assertEqual(led(("A~",), 1, ("walk", 1, 1)), [])
        self.assertEqual(led(("A",), 0, ("walk", 1, 20)), [])

    def test_across_the_largest_island(self):
        self.assertEqual(led(("A" + "." * 11,), 1, ("walk", 11, 20)), [(0, 11, 1)])
        self.assertEqual(led(("A",) + (".",) * 11, 2, ("walk", 11, 20)), [(11, 0, 2)])


class Until(unittest.TestCase):
    def test_the_first_cell_with_a_sign(self):
        self.assertEqual(led(("A.B.B",), 1, ("until", "B")), [(0, 2, 1)])
        self.assertEqual(led(("A.B.B",), 1, ("until", ".")), [(0, 1, 1)])
        self.assertEqual(led(("A.B.B",), 1, ("until", ".B")), [(0, 1, 1)])
        self.assertEqual(led(("A..CB",), 1, ("until", "BC")), [(0, 3, 1)])
        self.assertEqual(led(("A..BC",), 1, ("until", "C")), [(0, 4, 1)])

    def test_each_facing(self):
        self.assertEqual(led(WIDE, 0, ("until", "B")), [(0, 2, 0)])
        self.assertEqual(led(WIDE, 1, ("until", "C")), [(2, 4, 1)])
        self.assertEqual(led(WIDE, 2, ("until", "D")), [(4, 2, 2)])
        self.assertEqual(led(WIDE, 3, ("until", "C")), [(2, 0, 3)])

    def test_at_least_a_pace(self):
        self.assertEqual(led(("AB",), 1, ("until", "A")), [])
        self.assertEqual(led(("A.A",), 1, ("until", "A")), [(0, 2, 1)])
        self.assertEqual(led(("AA.",), 1, ("until", "A")), [(0, 1, 1)])

    def test_water_first(self):
        self.assertEqual(led(("A.~B",), 1, ("until", "B")), [])
        self.assertEqual(led(("A~B",), 1, ("until", "B")), [])
        self.assertEqual(led(("A.B",), 1, ("until", "C")), [])
        self.assertEqual(led(("A.B",), 3, ("until", "B")), [])
        self.assertEqual(led(("A",), 2, ("until", ".A")), [])

    def test_across_the_largest_island(self):
        self.assertEqual(led(("A" + "." * 10 + "B",), 1, ("until", "B")), [(0, 11, 1)])
        self.assertEqual(led(("B",) + (".",) * 10 + ("A",), 0, ("until", "B")), [(0, 0, 0)])


class Toward(unittest.TestCase):
    def test_the_sides_with_a_sign(self):
        for facing in range(4):
            with self.subTest(facing=facing):
                self.assertEqual(led(WIDE, facing, ("toward", "B")), [(2, 2, 0)])
                self.assertEqual(led(WIDE, facing, ("toward", "C")), [(2, 2, 1), (2, 2, 3)])
                self.assertEqual(led(WIDE, facing, ("toward", "D")), [(2, 2, 2)])
                self.assertEqual(led(WIDE, facing, ("toward", "BD")), [(2, 2, 0), (2, 2, 2)])
                self.assertEqual(led(WIDE, facing, ("toward", ".")), [(2, 2, side) for side in range(4)])

    def test_no_side(self):
        self.assertEqual(led(WIDE, 0, ("toward", "Z")), [])
        self.assertEqual(led(("A.", ".B"), 1, ("toward", "B")), [])

    def test_behind_another_sign(self):
        self.assertEqual(led(("AC.B",), 3, ("toward", "B")), [(0, 0, 1)])

    def test_behind_water(self):
        self.assertEqual(led(("A~B",), 0, ("toward", "B")), [(0, 0, 1)])
        self.assertEqual(led(("B~~~~~~~~~~A",), 0, ("toward", "B")), [(0, 11, 3)])
        self.assertEqual(led(("A",) + ("~",) * 10 + ("B",), 0, ("toward", "B")), [(0, 0, 2)])
        self.assertEqual(led(("B",) + ("~",) * 10 + ("A",), 1, ("toward", "B")), [(11, 0, 0)])

    def test_not_ones_own_cell(self):
        self.assertEqual(led(("A",), 0, ("toward", "A")), [])
        self.assertEqual(led((".A.",), 0, ("toward", "A")), [])
        self.assertEqual(led(("A.A",), 0, ("toward", "A")), [(0, 0, 1), (0, 2, 3)])


class Beside(unittest.TestCase):
    def test_each_facing_and_turn(self):
        for facing in range(4):
            for turn in range(4):
                sign = CROSS_SIGNS[(facing + turn) % 4]
                with self.subTest(facing=facing, turn=turn):
                    self.assertEqual(led(CROSS, facing, ("beside", turn, sign)), [(1, 1, facing)])
                    for other in ".ABCDE~":
                        if other != sign:
                            self.assertEqual(led(CROSS, facing, ("beside", turn, other)), [])

    def test_one_of_several_signs(self):
        self.assertEqual(led(CROSS, 0, ("beside", 0, ".BZ~")), [(1, 1, 0)])
        self.assertEqual(led(CROSS, 0, ("beside", 0, ".CDE~")), [])

    def test_water(self):
        self.assertEqual(led((".A~",), 1, ("beside", 0, "~")), [(0, 1, 1)])
        self.assertEqual(led((".A~",), 1, ("beside", 0, ".B~")), [(0, 1, 1)])
        self.assertEqual(led((".A~",), 1, ("beside", 0, ".B")), [])
        self.assertEqual(led((".A~",), 1, ("beside", 2, "~")), [])

    def test_beyond_the_island(self):
        for facing in range(4):
            for turn in range(4):
                with self.subTest(facing=facing, turn=turn):
                    self.assertEqual(led(("A",), facing, ("beside", turn, "~")), [(0, 0, facing)])
                    self.assertEqual(led(("A",), facing, ("beside", turn, ".A")), [])

    def test_only_the_next_cell(self):
        self.assertEqual(led(("A.B",), 1, ("beside", 0, "B")), [])


class Near(unittest.TestCase):
    def test_in_a_row(self):
        self.assertEqual(led(("A..B",), 2, ("near", "B", 2)), [])
        self.assertEqual(led(("A..B",), 2, ("near", "B", 3)), [(0, 0, 2)])
        self.assertEqual(led(("B..A",), 2, ("near", "B", 3)), [(0, 3, 2)])
        self.assertEqual(led(("A", ".", "B"), 1, ("near", "B", 1)), [])
        self.assertEqual(led(("A", ".", "B"), 1, ("near", "B", 2)), [(0, 0, 1)])
        self.assertEqual(led(("B", ".", "A"), 1, ("near", "B", 2)), [(2, 0, 1)])

    def test_rows_and_columns_together(self):
        self.assertEqual(led(("A..", "..B"), 0, ("near", "B", 2)), [])
        self.assertEqual(led(("A..", "..B"), 0, ("near", "B", 3)), [(0, 0, 0)])
        self.assertEqual(led(("..B", "A.."), 0, ("near", "B", 2)), [])
        self.assertEqual(led(("..B", "A.."), 0, ("near", "B", 3)), [(1, 0, 0)])

    def test_whatever_one_faces(self):
        for facing in range(4):
            self.assertEqual(led(WIDE, facing, ("near", "BZ", 2)), [(2, 2, facing)])

    def test_behind_water(self):
        self.assertEqual(led(("A~~B",), 3, ("near", "B", 3)), [(0, 0, 3)])

    def test_ones_own_cell(self):
        self.assertEqual(led(WIDE, 1, ("near", "A", 0)), [(2, 2, 1)])
        self.assertEqual(led(WIDE, 1, ("near", "A", 22)), [(2, 2, 1)])
        self.assertEqual(led(WIDE, 1, ("near", ".BCD~", 0)), [])

    def test_water_on_the_island(self):
        rows = ("......", "......", "..A.~.", "......", "......")
        self.assertEqual(led(rows, 0, ("near", "~", 1)), [])
        self.assertEqual(led(rows, 0, ("near", "~", 2)), [(2, 2, 0)])
        self.assertEqual(led(rows, 0, ("near", "BC~", 2)), [(2, 2, 0)])
        self.assertEqual(led(rows, 0, ("near", "BC", 22)), [])

    def test_water_beyond_the_island(self):
        self.assertEqual(led(WIDE, 0, ("near", "~", 2)), [])
        self.assertEqual(led(WIDE, 0, ("near", "~", 3)), [(2, 2, 0)])
        self.assertEqual(led(("A",), 0, ("near", "~", 0)), [])
        self.assertEqual(led(("A",), 0, ("near", "~", 1)), [(0, 0, 0)])

    def test_water_beyond_each_side(self):
        for row, column in ((1, 4), (7, 4), (4, 1), (4, 7)):
            rows = [["."] * 9 for _ in range(9)]
            rows[row][column] = "A"
            rows = tuple("".join(signs) for signs in rows)
            with self.subTest(row=row, column=column):
                self.assertEqual(led(rows, 0, ("near", "~", 1)), [])
                self.assertEqual(led(rows, 0, ("near", "~", 2)), [(row, column, 0)])

    def test_across_the_largest_island(self):
        rows = ("A" + "." * 11,) + ("." * 12,) * 10 + ("." * 11 + "B",)
        self.assertEqual(led(rows, 0, ("near", "B", 21)), [])
        self.assertEqual(led(rows, 0, ("near", "B", 22)), [(0, 0, 0)])


class Shore(unittest.TestCase):
    def follows(self, rows, facing, side, states):
        """The states behind 0, 1, 2 .. paces are these."""
        for number, state in enumerate(states):
            with self.subTest(number=number):
                self.assertEqual(led(rows, facing, ("shore", side, number, number)), [state])

    def test_outside_with_the_water_at_the_left(self):
        states = [(0, 0, 1), (0, 1, 1), (1, 1, 2), (1, 0, 3), (0, 0, 0), (0, 1, 1), (1, 1, 2)]
        self.follows(("A.", ".."), 1, 3, states)

    def test_outside_with_the_water_at_the_right(self):
        states = [(0, 0, 2), (1, 0, 2), (1, 1, 1), (0, 1, 0), (0, 0, 3), (1, 0, 2), (1, 1, 1)]
        self.follows(("A.", ".."), 2, 1, states)

    def test_around_a_lake_at_the_right(self):
        states = [(0, 1, 1), (0, 2, 1), (1, 2, 2), (2, 2, 2), (2, 1, 3), (2, 0, 3), (1, 0, 0), (0, 0, 0), (0, 1, 1)]
        self.follows((".A.", ".~.", "..."), 1, 1, states)

    def test_around_a_lake_at_the_left(self):
        states = [(0, 1, 3), (0, 0, 3), (1, 0, 2), (2, 0, 2), (2, 1, 1), (2, 2, 1), (1, 2, 0), (0, 2, 0), (0, 1, 3)]
        self.follows((".A.", ".~.", "..."), 3, 3, states)

    def test_to_the_end_of_a_spit_and_back(self):
        states = [(0, 0, 1), (0, 1, 1), (0, 2, 1), (0, 1, 3), (0, 0, 3), (0, 1, 1), (0, 2, 1)]
        self.follows(("A..",), 1, 3, states)
        self.follows(("A..",), 1, 1, states)

    def test_into_an_inlet(self):
        rows = ("A~.", "...")
        states = [(0, 0, 2), (1, 0, 2), (1, 1, 1), (1, 2, 1), (0, 2, 0), (1, 2, 2), (1, 1, 3), (1, 0, 3), (0, 0, 0)]
        self.follows(rows, 2, 3, states)

    def test_without_water_at_the_beginning(self):
        rows = ("...", ".A.", "...")
        self.follows(rows, 0, 3, [(1, 1, 0), (1, 0, 3), (2, 0, 2), (2, 1, 1), (1, 1, 0), (1, 0, 3)])
        self.follows(rows, 0, 1, [(1, 1, 0), (1, 2, 1), (2, 2, 2), (2, 1, 3), (1, 1, 0), (1, 2, 1)])

    def test_to_the_side_ahead_of_straight_on(self):
        self.follows(("A.", ".~"), 1, 1, [(0, 0, 1), (1, 0, 2)])
        self.follows(("A.", "~."), 1, 1, [(0, 0, 1), (0, 1, 1), (1, 1, 2)])

    def test_turning_away_at_the_beginning(self):
        self.follows(("..A", "..."), 1, 3, [(0, 2, 1), (1, 2, 2)])
        self.follows(("...", "..A"), 1, 1, [(1, 2, 1), (0, 2, 0)])
        self.follows(("..A",), 1, 3, [(0, 2, 1), (0, 1, 3)])
        self.follows(("..A",), 1, 1, [(0, 2, 1), (0, 1, 3)])

    def test_hemmed_in_on_all_sides(self):
        for rows, row, column in ((("A",), 0, 0), (("~~~", "~A~", "~~~"), 1, 1), ((".~.", "~A~", ".~."), 1, 1)):
            for side in (1, 3):
                for facing in range(4):
                    with self.subTest(rows=rows, side=side, facing=facing):
                        self.assertEqual(led(rows, facing, ("shore", side, 0, 0)), [(row, column, facing)])
                        self.assertEqual(led(rows, facing, ("shore", side, 0, 9)), [(row, column, facing)])
                        self.assertEqual(led(rows, facing, ("shore", side, 1, 9)), [])

    def test_all_numbers_from_least_to_most(self):
        rows = ("A...", "....")
        self.assertEqual(led(rows, 1, ("shore", 3, 1, 3)), [(0, 1, 1), (0, 2, 1), (0, 3, 1)])
        self.assertEqual(led(rows, 1, ("shore", 3, 0, 1)), [(0, 0, 1), (0, 1, 1)])
        self.assertEqual(led(rows, 1, ("shore", 3, 3, 5)), [(0, 3, 1), (1, 2, 3), (1, 3, 2)])

    def test_several_numbers_that_lead_to_one_state(self):
        outside = [(0, 0, 0), (0, 0, 1), (0, 1, 1), (1, 0, 3), (1, 1, 2)]
        self.assertEqual(led(("A.", ".."), 1, ("shore", 3, 0, 20)), outside)
        self.assertEqual(led(("A.", ".."), 1, ("shore", 3, 1, 20)), outside[:1] + outside[2:])
        self.assertEqual(led(("A.", ".."), 1, ("shore", 3, 1, 5)), outside[:1] + outside[2:])
        inland = [(1, 0, 3), (1, 1, 0), (2, 0, 2), (2, 1, 1)]
        self.assertEqual(led(("...", ".A.", "..."), 0, ("shore", 3, 0, 20)), inland)

    def test_twenty_paces(self):
        rows = ("A" + "." * 11,) + ("." * 12,) * 11
        self.assertEqual(led(rows, 1, ("shore", 3, 20, 20)), [(9, 11, 2)])
        self.assertEqual(len(led(rows, 1, ("shore", 3, 0, 20))), 21)


if __name__ == "__main__":
    unittest.main()
