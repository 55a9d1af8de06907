"""Point 2: islands."""

import unittest

from helpers import raised
from oldmap.errors import InvalidIsland, UnknownCell
from oldmap.islands import Island

ROWS = ("..A~", ".~.B", "B..~")


class GoodIslands(unittest.TestCase):
    def test_each_single_sign(self):
        for sign in "~.ABCDEFGHIJKLMNOPQRSTUVWXYZ":
            with self.subTest(sign=sign):
                self.assertEqual(Island((sign,)).rows, (sign,))

    def test_every_size(self):
        for height in range(1, 13):
            for width in range(1, 13):
                with self.subTest(height=height, width=width):
                    island = Island(("." * width,) * height)
                    self.assertEqual((island.height, island.width), (height, width))
                    self.assertEqual(len(island.cells), height * width)


class WrongIslands(unittest.TestCase):
    def wrong(self, rows, row, column):
        with self.subTest(rows=rows):
            error = raised(InvalidIsland, Island, rows)
            self.assertEqual((error.row, error.column), (row, column))

    def test_no_rows(self):
        self.wrong((), 0, 0)

    def test_wrong_signs(self):
        for sign in "a#*@[ \n0-}_`" + "\x7f\u00c4\u0391":
            self.wrong((sign,), 0, 0)
            self.wrong(("..", "." + sign), 1, 1)
            self.wrong(("..", sign + sign), 1, 0)

    def test_first_wrong_sign_row_by_row(self):
        self.wrong(("...", "..#", "#.."), 1, 2)
        self.wrong(("...", ".##", "..."), 1, 1)
        self.wrong(("..#", "...."), 0, 2)

    def test_too_many_signs(self):
        self.wrong(("..", "..."), 1, 2)
        self.wrong(("..", "....."), 1, 2)
        self.wrong((".", "~A"), 1, 1)
        self.wrong(("..", "..#"), 1, 2)
        self.wrong(("." * 12, "." * 13), 1, 12)

    def test_missing_signs(self):
        self.wrong(("...", ".."), 1, 2)
        self.wrong(("...", "."), 1, 1)
        self.wrong(("...", ""), 1, 0)
        self.wrong(("." * 12, "." * 11), 1, 11)

    def test_wrong_sign_ahead_of_one_too_many_or_missing(self):
        self.wrong(("..", "#..."), 1, 0)
        self.wrong(("...", "#."), 1, 0)
        self.wrong(("...", ".#"), 1, 1)

    def test_thirteenth_sign(self):
        self.wrong(("." * 13,), 0, 12)
        self.wrong(("." * 12 + "#",), 0, 12)
        self.wrong(("." * 20, "." * 20), 0, 12)
        self.wrong(("...#" + "." * 9,), 0, 3)

    def test_thirteenth_row(self):
        for last in ("..", "#.", "", "...", "."):
            self.wrong(("..",) * 12 + (last,), 12, 0)
        self.wrong(("..",) * 20, 12, 0)
        self.wrong(("..",) * 11 + (".#", ".."), 11, 1)

    def test_first_row_without_signs(self):
        self.wrong(("",), 0, 0)
        self.wrong(("", ""), 0, 0)
        self.wrong(("", ".."), 0, 0)
        self.wrong(("",) * 13, 0, 0)


class Properties(unittest.TestCase):
    def test_properties(self):
        island = Island(ROWS)
        self.assertEqual(island.rows, ROWS)
        self.assertEqual((island.height, island.width), (3, 4))
        self.assertEqual(
            island.cells,
            [(0, 0), (0, 1), (0, 2), (1, 0), (1, 2), (1, 3), (2, 0), (2, 1), (2, 2)],
        )
        self.assertEqual(island.landmarks, ("A", "B"))

    def test_without_land_and_without_landmarks(self):
        self.assertEqual(Island(("~~", "~~")).cells, [])
        self.assertEqual(Island(("~~", "~~")).landmarks, ())
        self.assertEqual(Island(("..",)).landmarks, ())

    def test_landmarks_ascend_and_stand_once(self):
        self.assertEqual(Island(("ZBZ", "A.B")).landmarks, ("A", "B", "Z"))

    def test_the_list_of_cells_belongs_to_the_caller(self):
        island = Island((".A",))
        island.cells.clear()
        self.assertEqual(island.cells, [(0, 0), (0, 1)])

    def test_sign_of_a_cell(self):
        island = Island(ROWS)
        for row, signs in enumerate(ROWS):
            for column, sign in enumerate(signs):
                self.assertEqual(island[(row, column)], sign)

    def test_sign_beyond_the_island(self):
        island = Island(ROWS)
        for cell in ((-1, 0), (0, -1), (3, 0), (0, 4), (-1, -1), (3, 4), (99, 99)):
            with self.subTest(cell=cell):
                raised(UnknownCell, island.__getitem__, cell)
        for cell in ((True, 0), (0, False)):
            with self.subTest(cell=cell):
                raised(UnknownCell, island.__getitem__, cell)

    def test_membership(self):
        island = Island(ROWS)
        for row in range(-2, 5):
            for column in range(-2, 6):
                with self.subTest(row=row, column=column):
                    self.assertEqual((row, column) in island, (row, column) in island.cells)
        self.assertNotIn((False, 0), island)
        self.assertNotIn((0, True), island)

    def test_cannot_be_iterated_over(self):
        with self.assertRaises(TypeError):
            iter(Island(ROWS))
        with self.assertRaises(TypeError):
            list(Island(ROWS))


class TurnedAndEqual(unittest.TestCase):
    def test_turned_once(self):
        self.assertEqual(Island(ROWS).turned().rows, ("B..", ".~.", "..A", "~B~"))
        self.assertEqual(Island(("AB",)).turned().rows, ("A", "B"))
        self.assertEqual(Island(("A", "B")).turned().rows, ("BA",))

    def test_each_cell_comes_to_its_place(self):
        island = Island(ROWS)
        turned = island.turned()
        for row in range(3):
            for column in range(4):
                self.assertEqual(turned[(column, 2 - row)], island[(row, column)])

    def test_turned_four_times(self):
        island = Island(ROWS)
        self.assertEqual(island.turned().turned().rows, ("~..B", "B.~.", "~A.."))
        self.assertEqual(island.turned().turned().turned().turned(), island)
        self.assertEqual(island.rows, ROWS)

    def test_equality(self):
        self.assertTrue(Island(ROWS) == Island(ROWS))
        self.assertFalse(Island(ROWS) != Island(ROWS))
        self.assertFalse(Island(ROWS) == Island(ROWS[:2]))
        self.assertFalse(Island(("..",)) == Island((".", ".")))
        self.assertTrue(Island(("A",)) != Island(("B",)))
        self.assertFalse(Island(("A",)) == ("A",))


if __name__ == "__main__":
    unittest.main()
