"""Charts as lists of small integers."""

from oldmap.checks import in_range
from oldmap.errors import DecodeError
from oldmap.instructions import PARTS
from oldmap.islands import LARGEST, Island
from oldmap.maps import MOST_INSTRUCTIONS, Map

FIRST_ITEM = 79
# Each sign stands where its code tells.
CODED_SIGNS = ".~ABCDEFGHIJKLMNOPQRSTUVWXYZ"
LAST_SIGN = 27
MOST_SIGNS = 28
LAST_FACING = 3
MOST_FACINGS = 4
LAST_WORD = 6
LAST_NUMBER = 99


class Decoder:
    """The items of a list, which are taken one by one."""

    def __init__(self, values):
        self._values = list(values)
        self._offset = 0

    def take(self, least, most):
        """The next item, an integer in this range."""
        if self._offset == len(self._values) or not in_range(self._values[self._offset], least, most):
            raise DecodeError(self._offset)
        self._offset += 1
        return self._values[self._offset - 1]

    def take_all(self, many, most):
        """The list of so many items, from 0 to a greatest number."""
        return [self.take(0, most) for _ in range(many)]

    def take_counted(self, most_items, most):
        """The list of as many items as the one ahead of them tells, at least one."""
        return self.take_all(self.take(1, most_items), most)

    def finish(self):
        """Take the checksum, behind which there must be no item."""
        checksum = _checksum(self._values[:self._offset])
        self.take(checksum, checksum)
        if self._offset < len(self._values):
            raise DecodeError(self._offset)


def encode_map(chart):
    """The list of integers from 0 to 255 of a chart."""
    island = chart.island
    values = [FIRST_ITEM, island.height, island.width]
    for text in island.rows:
        values.extend(_sign_codes(text))
    values.extend(_counted(_sign_codes(chart.signs)))
    values.extend(_counted(list(chart.facings)))
    values.append(len(chart))
    for instruction in chart.instructions:
        values.extend(_instruction_codes(instruction))
    return values + [_checksum(values)]


def decode_map(values):
    """The chart of such a list."""
    decoder = Decoder(values)
    decoder.take(FIRST_ITEM, FIRST_ITEM)
    height = decoder.take(1, LARGEST)
    width = decoder.take(1, LARGEST)
    rows = [_signs(decoder.take_all(width, LAST_SIGN)) for _ in range(height)]
    signs = _signs(decoder.take_counted(MOST_SIGNS, LAST_SIGN))
    facings = tuple(decoder.take_counted(MOST_FACINGS, LAST_FACING))
    instructions = [_instruction(decoder) for _ in range(decoder.take(0, MOST_INSTRUCTIONS))]
    decoder.finish()
    return Map(Island(tuple(rows)), signs, facings, instructions)


def _checksum(values):
    checksum = 3
    for value in values:
        checksum = (17 * checksum + value) % 241
    return checksum


def _counted(codes):
    return [len(codes)] + codes


def _sign_codes(signs):
    return [CODED_SIGNS.index(sign) for sign in signs]


def _signs(codes):
    return "".join([CODED_SIGNS[code] for code in codes])


def _instruction_codes(instruction):
    word, *parts = instruction
    codes = [list(PARTS).index(word)]
    for kind, part in zip(PARTS[word], parts):
        if kind == "number":
            codes.append(part)
        else:
            codes.extend(_counted(list(part) if kind == "turns" else _sign_codes(part)))
    return codes


def _instruction(decoder):
    word = list(PARTS)[decoder.take(0, LAST_WORD)]
    return (word,) + tuple([_part(decoder, kind) for kind in PARTS[word]])


def _part(decoder, kind):
    if kind == "number":
        return decoder.take(0, LAST_NUMBER)
    if kind == "turns":
        return tuple(decoder.take_counted(MOST_FACINGS, LAST_FACING))
    return _signs(decoder.take_counted(MOST_SIGNS, LAST_SIGN))
