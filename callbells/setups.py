"""Set-ups: the lines of a processor, their handlers, and works."""

from callbells.checks import spoilt_handler, spoilt_line, spoilt_work
from callbells.errors import InvalidSetup, NotPlain, UnknownLine
from callbells.rows import read_setup, rows_text, setup_rows

TOUCHING = ("ring", "quiet", "mask", "unmask")


class Setup:
    """Lines (name, kind, rank, handler) and works (name, rank, ticks); it never changes."""

    MAX_LINES = 12
    MAX_WORKS = 8
    MAX_FLAG = 7

    def __init__(self, lines, works=()):
        check_setup(lines, works)
        self._lines = lines
        self._works = works
        self._by_name = {line[0]: line for line in lines}
        ranked = sorted([(-line[2], line[0]) for line in lines])
        self._order = tuple([name for _, name in ranked])

    @classmethod
    def parse(cls, text):
        """The set-up of a text."""
        lines, works = read_setup(setup_rows(text))
        return cls(lines, works)

    def __len__(self):
        return len(self._lines)

    def __contains__(self, x):
        # Only strings are looked up: a list could not be.
        return isinstance(x, str) and x in self._by_name

    def __getitem__(self, at):
        if at not in self:
            raise UnknownLine(at)
        return self._by_name[at]

    def __iter__(self):
        raise TypeError("a set-up is not iterated over")

    def __eq__(self, other):
        return isinstance(other, Setup) and self._lines == other._lines and self._works == other._works

    def __sub__(self, other):
        if other not in self:
            raise UnknownLine(other)
        return Setup(tuple([line for line in self._lines if line[0] != other]), self._works)

    @property
    def lines(self):
        """The tuple of the lines, as it was given."""
        return self._lines

    @property
    def works(self):
        """The tuple of the works, as it was given."""
        return self._works

    @property
    def order(self):
        """The names of all lines, by rank, the greatest first, then by name."""
        return self._order

    @property
    def is_plain(self):
        """Whether all lines are edges of different ranks whose handlers only run."""
        ranks = [line[2] for line in self._lines]
        words = [word for line in self._lines for word, _ in line[3]]
        kinds = [line[1] for line in self._lines]
        are_edges = all([kind == "edge" for kind in kinds])
        return are_edges and all([word == "run" for word in words]) and len(set(ranks)) == len(ranks)

    @property
    def text(self):
        """The text of which `parse` makes this set-up."""
        return rows_text(self._lines, self._works)

    def with_rank(self, line, rank):
        """The set-up in which a line has another rank."""
        name, kind, _, handler = self[line]
        changed = (name, kind, rank, handler)
        return Setup(tuple([changed if row[0] == name else row for row in self._lines]), self._works)

    def ticks_of(self, line):
        """The sum of the ticks of a line's run steps."""
        return sum([what for word, what in self[line][3] if word == "run"])

    def touched_by(self, line):
        """The lines that the steps of a line's handler ring, quiet, mask or unmask."""
        touched = [what for word, what in self[line][3] if word in TOUCHING]
        return [name for name in self._order if name in touched]


def check_setup(lines, works):
    """Raise InvalidSetup with the first part that is spoilt, if one is."""
    at = spoilt_line(lines, Setup.MAX_LINES)
    if at is not None:
        raise InvalidSetup("lines", at)
    at = spoilt_work(works, Setup.MAX_WORKS)
    if at is not None:
        raise InvalidSetup("works", at)
    at = spoilt_handler(lines, works, Setup.MAX_FLAG)
    if at is not None:
        raise InvalidSetup("handlers", at)


def check_plain(setup):
    """Raise NotPlain for a set-up that is not plain."""
    if not setup.is_plain:
        raise NotPlain("this set-up has levels, steps other than run, or lines of one rank")
