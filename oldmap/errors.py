"""The exceptions of the package."""


class MapError(ValueError):
    """The base class of all exceptions of the package."""


class InvalidIsland(MapError):
    """Rows that make no island; has the row and the column of the first wrong sign."""

    def __init__(self, row, column):
        self.row = row
        self.column = column


class InvalidMap(MapError):
    """Parts that make no chart; has the index of the first wrong instruction, or -1."""

    def __init__(self, index):
        self.index = index


class InvalidNumber(MapError):
    """A number that is out of its range."""


class UnknownCell(MapError):
    """A cell that is not on the island, or is water."""


class NoBeginning(MapError):
    """A chart that begins nowhere."""


class NoWay(MapError):
    """There is no way, where one is needed."""


class TooMany(MapError):
    """More items than a function takes."""


class InvalidRule(MapError):
    """A rule by which nobody can dig."""


class InvalidDig(MapError):
    """A dig that tells what no dig can tell; has its index."""

    def __init__(self, index):
        self.index = index


class InvalidGaps(MapError):
    """Gaps that a torn chart cannot have; has the index of the first wrong one."""

    def __init__(self, index):
        self.index = index


class InvalidPool(MapError):
    """A pool of instructions that cannot be used; has the index of the first wrong one."""

    def __init__(self, index):
        self.index = index


class UnknownIndex(MapError):
    """An index at which there is no instruction."""


class InvalidMaps(MapError):
    """Charts that do not belong together; has the index of the first wrong one."""

    def __init__(self, index):
        self.index = index


class NoInstruction(MapError):
    """There is no instruction left to do."""


class NoPlace(MapError):
    """There is no place left for the treasure."""


class InvalidName(MapError):
    """A name that no mark can have."""


class UnknownMark(MapError):
    """A name that no mark has."""


class InvalidOperation(MapError):
    """Operations that a search does not have; has the index of the first wrong one."""

    def __init__(self, index):
        self.index = index


class InvalidText(MapError):
    """A text that is not one of a chart; has the row and the word that are wrong."""

    def __init__(self, row, word):
        self.row = row
        self.word = word


class DecodeError(MapError):
    """A list that is not the code of a chart; has the offset of the first wrong item."""

    def __init__(self, offset):
        self.offset = offset


class DaybookError(MapError):
    """A text that is not one of a daybook; has the row and the word that are wrong."""

    def __init__(self, row, word):
        self.row = row
        self.word = word
