"""The exceptions of the package."""


class BellError(ValueError):
    """The base class of all exceptions of the package."""


class InvalidSetup(BellError):
    """A part of a set-up is spoilt: "lines", "works" or "handlers", at an index."""

    def __init__(self, part, index):
        super().__init__(f"this is no set-up: {part}, index {index}")
        self.part = part
        self.index = index


class UnknownLine(BellError):
    """There is no such line."""

    def __init__(self, line):
        super().__init__("there is no such line")
        self.line = line


class NotLevel(BellError):
    """An edge cannot be made quiet."""

    def __init__(self, line):
        super().__init__(f"this line is an edge, not a level: {line}")
        self.line = line


class InvalidNumber(BellError):
    """This is not a number in the range that is asked."""


class InvalidFlag(BellError):
    """This is not a flag."""


class InvalidBell(BellError):
    """A bell of devices is invalid."""

    def __init__(self, index):
        super().__init__(f"this is no bell: index {index}")
        self.index = index


class TooMany(BellError):
    """There are too many states."""


class NotPlain(BellError):
    """The set-up is not plain."""


class TooDense(BellError):
    """The rings of a line can be merged."""

    def __init__(self, line):
        super().__init__(f"rings of this line can be merged: {line}")
        self.line = line


class InvalidLog(BellError):
    """An item of a log cannot be."""

    def __init__(self, index):
        super().__init__(f"this item of the log cannot be: index {index}")
        self.index = index


class NotationError(BellError):
    """A row of a text does not have its form, from a word on."""

    def __init__(self, row, word):
        super().__init__(f"this text is not so formed: row {row}, word {word}")
        self.row = row
        self.word = word


class InvalidHouse(BellError):
    """A part of a house is spoilt, at an index."""

    def __init__(self, part, index):
        super().__init__(f"this is no house: {part}, index {index}")
        self.part = part
        self.index = index


class UnknownProcessor(BellError):
    """There is no such processor."""

    def __init__(self, processor):
        super().__init__("there is no such processor")
        self.processor = processor


class NotOn(BellError):
    """The processor is not on."""


class LastOne(BellError):
    """No other processor is on."""


class AlreadyOn(BellError):
    """The processor is on already."""


class NotWaiting(BellError):
    """The line does not wait, or is under way."""


class NotAllowed(BellError):
    """The line is not placed on this processor."""


class InvalidMove(BellError):
    """A move cannot be done."""

    def __init__(self, index):
        super().__init__(f"this move cannot be done: index {index}")
        self.index = index


class InvalidRings(BellError):
    """A ring of a weaving is invalid."""

    def __init__(self, index):
        super().__init__(f"this is no ring of a weaving: index {index}")
        self.index = index


class NotEdges(BellError):
    """A line of the set-up is not an edge."""


class OtherLines(BellError):
    """The houses have lines of different names."""


class InvalidClock(BellError):
    """A clock is invalid."""

    def __init__(self, index):
        super().__init__(f"this is no clock: index {index}")
        self.index = index


class UnknownWork(BellError):
    """There is no such work."""

    def __init__(self, work):
        super().__init__("there is no such work")
        self.work = work


class TooLong(BellError):
    """The repetition is too long."""


class InvalidDeed(BellError):
    """A deed is not so formed, or cannot be done."""

    def __init__(self, index):
        super().__init__(f"this deed cannot be done: index {index}")
        self.index = index


class DiaryError(BellError):
    """A row of a diary is not so formed, or cannot be done."""

    def __init__(self, row):
        super().__init__(f"this row of the diary cannot be done: row {row}")
        self.row = row
