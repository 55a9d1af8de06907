"""Point 22: several charts of the same treasure."""

import unittest

from helpers import CHARTS, LETTERED, check_repeated, every_way, in_order, raised
from oldmap.errors import InvalidMaps
from oldmap.islands import Island
from oldmap.maps import Map
from oldmap.several import common_places, joint_weights, most_agreeing, odd_one_out

CALLS = (common_places, joint_weights, most_agreeing, odd_one_out)
ROW = Island(("ABCDEF",))
LONG = Island(("A...........",))


def at(signs):
    """A chart that ends at the cells with some signs of the row."""
    return Map(ROW, signs, (0,), [])


# Charts that end nowhere: one without a way, and one without a beginning.
NOWHERE = (Map(ROW, "A", (0,), [("walk", 1, 1)]), at("XYZ"))


def cells(letters):
    return [(0, "ABCDEF".index(letter)) for letter in letters]


def brute(charts):
    """What the four functions return, by the lists of all ways."""
    ends = [[way[-1][:2] for way in every_way(chart)] for chart in charts]
    common = [cell for cell in charts[0].island.cells if all(cell in found for found in ends)]
    products = []
    for cell in common:
        product = 1
        for found in ends:
            product *= found.count(cell)
        products.append((cell, product))
    best = (0, (), ())
    for mask in range(1, 1 << len(charts)):
        indexes = tuple(index for index in range(len(charts)) if mask >> index & 1)
        shared = tuple(cell for cell in charts[0].island.cells if all(cell in ends[index] for index in indexes))
        if shared and (len(indexes) > best[0] or len(indexes) == best[0] and indexes < best[1]):
            best = (len(indexes), indexes, shared)
    odd = []
    for index in range(len(charts)):
        others = ends[:index] + ends[index + 1:]
        if not common and any(all(cell in found for found in others) for cell in charts[0].island.cells):
            odd.append(index)
    return [common, products, best, odd]


def told(charts):
    return [in_order(call(charts)) for call in CALLS]


class Agreeing(unittest.TestCase):
    def test_common_places(self):
        self.assertEqual(common_places([at("ABD"), at("BDE")]), cells("BD"))
        self.assertEqual(common_places([at("ABD"), at("BDE"), at("DF")]), cells("D"))
        self.assertEqual(common_places([at("ABCDEF")] * 6), cells("ABCDEF"))
        self.assertEqual(common_places([at("AB"), at("CD")]), [])
        self.assertEqual(common_places([at("AB"), at("BC"), at("AC")]), [])
        self.assertEqual(common_places((at("F"), at("BF"))), cells("F"))

    def test_charts_that_end_nowhere(self):
        for nowhere in NOWHERE:
            for charts in ([nowhere, at("A")], [at("A"), nowhere], [at("A"), at("A"), nowhere], [nowhere, nowhere]):
                with self.subTest(signs=[chart.signs for chart in charts]):
                    self.assertEqual(common_places(charts), [])
                    self.assertEqual(joint_weights(charts), {})

    def test_joint_weights(self):
        one = Map(ROW, "AB", (1,), [("walk", 0, 2)])
        other = Map(ROW, "D", (1, 3), [("walk", 0, 2)])
        self.assertEqual(in_order(joint_weights([one, other])), [((0, 1), 2), ((0, 2), 2), ((0, 3), 2)])
        self.assertEqual(in_order(joint_weights([one, one])), [((0, 0), 1), ((0, 1), 4), ((0, 2), 4), ((0, 3), 1)])
        self.assertEqual(in_order(joint_weights([one, other, one])), [((0, 1), 4), ((0, 2), 4), ((0, 3), 2)])
        self.assertEqual(joint_weights([at("A"), at("B")]), {})

    def test_very_great_products(self):
        # Behind each such pair of instructions there are four times as many ways.
        chart = Map(LONG, "A", (1,), [("turn", (0, 1, 2, 3)), ("walk", 0, 0)] * 10)
        self.assertEqual(joint_weights([chart] * 6), {(0, 0): 4 ** 60})
        wide = Map(Island(("............",) * 12), ".", (0, 1, 2, 3), [("walk", 0, 20), ("turn", (0, 1, 2, 3))] * 10)
        weights = joint_weights([wide] * 6)
        self.assertEqual(list(weights), wide.island.cells)
        self.assertEqual(weights[(0, 0)], weights[(11, 11)])
        self.assertGreater(weights[(0, 0)], 10 ** 60)

    def test_most_agreeing(self):
        self.assertEqual(most_agreeing([at("AB"), at("BC")]), (2, (0, 1), tuple(cells("B"))))
        self.assertEqual(most_agreeing([at("AB"), at("CD"), at("BD")]), (2, (0, 2), tuple(cells("B"))))
        self.assertEqual(most_agreeing([at("AB"), at("CD"), at("CE")]), (2, (1, 2), tuple(cells("C"))))
        self.assertEqual(most_agreeing([at("AF"), at("AF"), at("ADF")]), (3, (0, 1, 2), tuple(cells("AF"))))

    def test_the_least_indexes_of_equally_many(self):
        self.assertEqual(most_agreeing([at("EF"), at("AB"), at("AF"), at("BE")]), (2, (0, 2), tuple(cells("F"))))
        charts = [at("AF"), at("BCE"), at("CDE"), at("DF")]
        self.assertEqual(most_agreeing(charts), (2, (0, 3), tuple(cells("F"))))
        self.assertEqual(most_agreeing(charts[1:]), (2, (0, 1), tuple(cells("CE"))))
        self.assertEqual(most_agreeing([at("C"), at("B"), at("A")]), (1, (0,), tuple(cells("C"))))
        self.assertEqual(most_agreeing([NOWHERE[0], at("BC"), at("A")]), (1, (1,), tuple(cells("BC"))))

    def test_the_cells_of_just_these(self):
        # Both pairs have a cell, and all of the first one's cells count, but not those of one chart alone.
        self.assertEqual(most_agreeing([at("ABC"), at("ACD"), at("DE")]), (2, (0, 1), tuple(cells("AC"))))

    def test_no_chart_that_ends_anywhere(self):
        self.assertEqual(most_agreeing(NOWHERE), (0, (), ()))
        self.assertEqual(most_agreeing([NOWHERE[0]] * 6), (0, (), ()))

    def test_an_odd_one(self):
        self.assertEqual(odd_one_out([at("AB"), at("BC"), at("D")]), [2])
        self.assertEqual(odd_one_out([at("D"), at("AB"), at("BC")]), [0])
        self.assertEqual(odd_one_out([at("AB"), NOWHERE[0], at("BC")]), [1])
        self.assertEqual(odd_one_out([at("AB"), at("BC"), at("AC")]), [0, 1, 2])
        self.assertEqual(odd_one_out([at("AB"), at("AC"), at("BC"), at("BC")]), [0, 1])

    def test_no_odd_one(self):
        self.assertEqual(odd_one_out([at("AB"), at("BC")]), [])
        self.assertEqual(odd_one_out([at("AB"), at("BC"), at("B")]), [])
        self.assertEqual(odd_one_out([at("A"), at("B"), at("C")]), [])
        self.assertEqual(odd_one_out([at("A"), at("B"), at("A"), at("B")]), [])
        self.assertEqual(odd_one_out([at("A"), at("A"), NOWHERE[0], NOWHERE[1]]), [])

    def test_two_charts_without_a_common_cell(self):
        self.assertEqual(odd_one_out([at("A"), at("B")]), [0, 1])
        for nowhere in NOWHERE:
            self.assertEqual(odd_one_out([nowhere, at("B")]), [0])
            self.assertEqual(odd_one_out([at("A"), nowhere]), [1])
            self.assertEqual(odd_one_out([nowhere, nowhere]), [])

    def test_against_all_ways(self):
        for first, chart in enumerate(CHARTS):
            for other in CHARTS[first:]:
                self.assertEqual(told([chart, other]), brute([chart, other]))
        for one in range(7):
            for many in (3, 4, 6):
                charts = [CHARTS[(one + 3 * number) % 7] for number in range(many)]
                with self.subTest(one=one, many=many):
                    self.assertEqual(told(charts), brute(charts))

    def test_repeated_calls(self):
        for charts in (list(CHARTS[:3]), list(CHARTS[1:7]), [at("AB"), at("CD"), at("BD")], list(NOWHERE)):
            for call in CALLS:
                check_repeated(self, call, charts)


class Errors(unittest.TestCase):
    def fails(self, index, charts):
        for call in CALLS:
            with self.subTest(call=call.__name__):
                self.assertEqual(raised(InvalidMaps, call, charts).index, index)

    def test_fewer_than_two(self):
        self.fails(0, [])
        self.fails(1, [at("A")])
        self.fails(1, [NOWHERE[1]])
        self.fails(0, ())

    def test_more_than_six(self):
        for many in (7, 8, 20):
            self.fails(6, [at("A")] * many)
            self.fails(6, [NOWHERE[0]] * many)

    def test_another_island(self):
        other = Map(LETTERED, "A", (0,), [])
        for index in range(1, 6):
            charts = [at("A")] * 6
            charts[index] = other
            self.fails(index, charts)
            self.fails(index, charts + [at("A")])
        self.fails(1, [other, at("A"), at("B")])
        self.fails(1, [at("A"), at("A").turned()])
        self.fails(1, [Map(Island((".",)), ".", (0,), []), Map(Island(("..",)), ".", (0,), [])])

    def test_several_at_once(self):
        other, third = Map(LETTERED, "A", (0,), []), Map(LONG, "A", (0,), [])
        self.fails(2, [at("A"), at("A"), third, other])
        self.fails(1, [third] + [at("A")] * 8)
        self.fails(6, [at("A")] * 6 + [other])
        self.fails(6, [at("A")] * 7 + [other])
        self.fails(5, [at("A")] * 5 + [other] * 4)

    def test_an_island_that_is_equal_is_no_other_one(self):
        again = Map(Island(("ABCDEF",)), "B", (1,), [])
        self.assertEqual(common_places([at("AB"), again]), [(0, 1)])
        self.assertEqual(joint_weights([again, at("AB")]), {(0, 1): 1})
        self.assertEqual(most_agreeing([again, at("AB")]), (2, (0, 1), ((0, 1),)))
        self.assertEqual(odd_one_out([again, at("A")]), [0, 1])


if __name__ == "__main__":
    unittest.main()
