"""Point 29: charts as lists of small integers."""

import unittest

from helpers import CHARTS, check_repeated, raised
from oldmap.codec import decode_map, encode_map
from oldmap.errors import DecodeError, InvalidMap
from oldmap.islands import Island
from oldmap.maps import Map

ALL_LETTERS = ".ABCDEFGHIJKLMNOPQRSTUVWXYZ"
FULL = Map(Island(("..A", ".~B")), ".AB", (0, 1, 3), [
    ("turn", (0, 3)), ("walk", 0, 20), ("until", ".AZ"), ("toward", "B"), ("beside", 3, "A~"), ("near", "~", 22),
    ("shore", 1, 0, 9),
])
FULL_CODE = [
    79, 2, 3, 0, 0, 2, 0, 1, 3, 3, 0, 2, 3, 3, 0, 1, 3, 7,
    0, 2, 0, 3, 1, 0, 20, 2, 3, 0, 2, 27, 3, 1, 3, 4, 3, 2, 2, 1, 5, 1, 1, 22, 6, 1, 0, 9,
]

# The least and the greatest number that each item of the code of FULL can be.
RANGES = (
    [(79, 79), (1, 12), (1, 12)] + [(0, 27)] * 6 + [(1, 28)] + [(0, 27)] * 3 + [(1, 4)] + [(0, 3)] * 3 + [(0, 20)]
    + [(0, 6), (1, 4), (0, 3), (0, 3)]
    + [(0, 6), (0, 99), (0, 99)]
    + [(0, 6), (1, 28), (0, 27), (0, 27), (0, 27)]
    + [(0, 6), (1, 28), (0, 27)]
    + [(0, 6), (0, 99), (1, 28), (0, 27), (0, 27)]
    + [(0, 6), (1, 28), (0, 27), (0, 99)]
    + [(0, 6), (0, 99), (0, 99), (0, 99)]
)

NO_INTEGERS = (True, False, None, "", "1", "A", (), (1,), [], [1], {}, 1.0, 2.0, b"\x01")


def summed(values):
    """The values with their checksum."""
    checksum = 3
    for value in values:
        checksum = (17 * checksum + value) % 241
    return values + [checksum]


def with_item(values, offset, value):
    return values[:offset] + [value] + values[offset + 1:]


class Codes(unittest.TestCase):
    def test_encode(self):
        self.assertEqual(encode_map(FULL), summed(FULL_CODE))
        self.assertEqual(encode_map(Map(Island(("~",)), ".", (2,), [])), summed([79, 1, 1, 1, 1, 0, 1, 2, 0]))
        # By hand: 3 becomes 130, 42, 233, 106, 116, 44, 26, 203 and 77.
        self.assertEqual(encode_map(Map(Island(("~",)), ".", (2,), []))[-1], 77)

    def test_decode(self):
        self.assertEqual(decode_map(summed(FULL_CODE)), FULL)
        chart = decode_map(summed([79, 1, 2, 27, 1, 2, 0, 27, 2, 1, 3, 1, 5, 2, 2, 1, 0]))
        self.assertEqual(chart.island.rows, ("Z~",))
        self.assertEqual([chart.signs, chart.facings, chart.instructions], [".Z", (1, 3), (("near", "A~", 0),)])

    def test_decoded_parts(self):
        chart = decode_map(summed(FULL_CODE))
        self.assertEqual(chart.island.rows, FULL.island.rows)
        self.assertEqual(chart.signs, FULL.signs)
        self.assertEqual(chart.facings, FULL.facings)
        self.assertEqual(chart.instructions, FULL.instructions)

    def test_charts_read_back(self):
        great = Map(Island(("A..........Z",) * 12), ALL_LETTERS, (0, 1, 2, 3), [
            ("near", ALL_LETTERS + "~", 22), ("beside", 0, ALL_LETTERS + "~"), ("turn", (0, 1, 2, 3)),
            ("shore", 3, 20, 20),
        ] * 5)
        least = Map(Island((".",)), ".", (0,), [])
        for chart in CHARTS + (FULL, great, least):
            for _ in range(4):
                values = encode_map(chart)
                self.assertTrue(all(type(value) is int and 0 <= value <= 255 for value in values))
                self.assertEqual(decode_map(values), chart)
                self.assertEqual(encode_map(decode_map(values)), values)
                chart = chart.turned()

    def test_islands_of_all_sizes(self):
        for height in (1, 2, 11, 12):
            for width in (1, 2, 11, 12):
                chart = Map(Island((("A~." * 4)[:width],) * height), "A", (0,), [("walk", 1, 1)])
                self.assertEqual(encode_map(chart)[1:3], [height, width])
                self.assertEqual(decode_map(encode_map(chart)), chart)

    def test_each_sign(self):
        row = ".~" + ALL_LETTERS[1:11]
        rows = (row, ALL_LETTERS[11:23], ALL_LETTERS[23:] + "........")
        values = encode_map(Map(Island(rows), ".", (0,), []))
        self.assertEqual(values[3:31], list(range(28)))
        self.assertEqual(decode_map(values).island.rows, rows)

    def test_repeated_calls(self):
        for chart in CHARTS + (FULL,):
            check_repeated(self, encode_map, chart)
            check_repeated(self, decode_map, encode_map(chart))


class WrongCodes(unittest.TestCase):
    def fails(self, values, offset):
        with self.subTest(values=values):
            self.assertEqual(raised(DecodeError, decode_map, values).offset, offset)

    def test_there_is_a_range_for_each_item(self):
        self.assertEqual(len(RANGES), len(FULL_CODE))
        for value, (least, most) in zip(FULL_CODE, RANGES):
            self.assertTrue(least <= value <= most)

    def test_items_out_of_range(self):
        for offset, (least, most) in enumerate(RANGES):
            for value in (least - 1, most + 1, -1, -255, 256, 10 ** 30) + NO_INTEGERS:
                self.fails(summed(FULL_CODE)[:offset] + [value] + summed(FULL_CODE)[offset + 1:], offset)
                self.fails(summed(FULL_CODE)[:offset] + [value], offset)
                self.fails(with_item(with_item(summed(FULL_CODE), offset, value), 45, -1), offset)

    def test_items_at_the_ends_of_their_ranges(self):
        # What is wrong then is the checksum, or a later item, if this one tells how many there are.
        for offset, ends in enumerate(RANGES):
            for value in ends:
                if value != FULL_CODE[offset]:
                    values = with_item(summed(FULL_CODE), offset, value)
                    with self.subTest(offset=offset, value=value):
                        self.assertGreater(raised(DecodeError, decode_map, values).offset, offset)

    def test_items_at_the_ends_of_ranges_that_no_chart_has(self):
        self.assertEqual(decode_map(summed(with_item(FULL_CODE, 7, 27))).island.rows, ("..A", ".ZB"))
        self.assertEqual(raised(InvalidMap, decode_map, summed(with_item(FULL_CODE, 10, 1))).index, -1)
        self.assertEqual(raised(InvalidMap, decode_map, summed(with_item(FULL_CODE, 14, 3))).index, -1)
        for offset, index in ((23, 1), (24, 1), (34, 4), (41, 5), (43, 6), (44, 6), (45, 6)):
            values = summed(with_item(FULL_CODE, offset, 99))
            with self.subTest(offset=offset):
                self.assertEqual(raised(InvalidMap, decode_map, values).index, index)

    def test_lists_that_end_anywhere(self):
        for chart in CHARTS[:3] + (FULL,):
            values = encode_map(chart)
            for many in range(len(values)):
                self.fails(values[:many], many)

    def test_an_item_behind_the_checksum(self):
        for more in ([0], [79], [True], [None], [0, 0, 0], ["x"], [-1]):
            for chart in CHARTS[:2] + (FULL,):
                self.fails(encode_map(chart) + more, len(encode_map(chart)))

    def test_wrong_checksums(self):
        values = encode_map(FULL)
        for value in list(range(-2, 258)) + list(NO_INTEGERS):
            if value != values[-1] or isinstance(value, bool):
                self.fails(values[:-1] + [value], len(values) - 1)
                self.fails(values[:-1] + [value, 0], len(values) - 1)
        self.fails(values[:-1] + [values[-1] + 241], len(values) - 1)

    def test_checksums_that_are_a_boolean(self):
        # Charts with the checksums 0 and 1, which a boolean equals.
        found = {}
        for number in range(2000):
            instructions = [("walk", 0, number % 21)] * (number % 17)
            chart = Map(Island(("." * (number % 12 + 1),)), "A", (number % 4,), instructions)
            found[encode_map(chart)[-1]] = encode_map(chart)
        for checksum, told in ((0, False), (1, True)):
            self.assertEqual(encode_map(decode_map(found[checksum])), found[checksum])
            self.fails(found[checksum][:-1] + [told], len(found[checksum]) - 1)

    def test_exchanged_items(self):
        self.fails(with_item(with_item(summed(FULL_CODE), 3, 2), 5, 0), len(FULL_CODE))


class WrongCharts(unittest.TestCase):
    def fails(self, index, values):
        with self.subTest(values=values):
            self.assertEqual(raised(InvalidMap, decode_map, summed(values)).index, index)
            # A wrong checksum, or an item behind it, is told first.
            wrong = values + [(summed(values)[-1] + 1) % 241]
            self.assertEqual(raised(DecodeError, decode_map, wrong).offset, len(values))
            self.assertEqual(raised(DecodeError, decode_map, values).offset, len(values))
            self.assertEqual(raised(DecodeError, decode_map, summed(values) + [0]).offset, len(values) + 1)

    def test_signs_and_facings(self):
        for signs in ([1], [1, 0], [0, 1], [0, 0], [2, 0], [3, 2], [2, 2], [0, 2, 2]):
            self.fails(-1, [79, 1, 1, 0, len(signs)] + signs + [1, 0, 0])
        for facings in ([0, 0], [1, 0], [3, 2, 1], [0, 1, 1], [0, 1, 2, 2]):
            self.fails(-1, [79, 1, 1, 0, 1, 0, len(facings)] + facings + [0])

    def test_instructions(self):
        for told in (
            [0, 2, 0, 0], [0, 2, 3, 1], [0, 4, 0, 1, 2, 2], [1, 2, 1], [1, 0, 21], [1, 99, 99], [2, 1, 1], [2, 2, 3, 2],
            [2, 2, 2, 1], [3, 1, 1], [3, 2, 2, 2], [4, 4, 1, 2], [4, 99, 1, 2], [4, 0, 2, 1, 2], [5, 1, 2, 23],
            [5, 2, 1, 1, 1], [6, 0, 1, 1], [6, 2, 1, 1], [6, 4, 1, 1], [6, 1, 2, 1], [6, 3, 0, 21],
        ):
            self.fails(0, [79, 1, 1, 0, 1, 0, 1, 0, 1] + told)
            self.fails(2, [79, 1, 1, 0, 1, 0, 1, 0, 4, 0, 1, 2, 1, 1, 1] + told + [0, 2, 1, 1])


if __name__ == "__main__":
    unittest.main()
