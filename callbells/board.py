"""The lines and flags of a set-up: what has rung, what is disabled, what is up."""

from callbells.checks import is_integer
from callbells.errors import InvalidFlag, NotLevel, UnknownLine
from callbells.setups import Setup


def put_changed(table, at, value):
    """Put a value into a list or dict; return whether this changed anything."""
    was = table[at]
    table[at] = value
    return was != value


def check_flag(flag):
    """Raise InvalidFlag for what is no flag."""
    if not is_integer(flag, 0, Setup.MAX_FLAG):
        raise InvalidFlag(f"a flag is an integer from 0 to {Setup.MAX_FLAG}")


class Board:
    """What holds of lines and flags whichever processor a call is on."""

    def __init__(self, setup):
        self._setup = setup
        # An edge that has rung waits, a level that has rung is high.
        self._rung = {name: False for name in setup.order}
        self._disabled = {name: False for name in setup.order}
        self._under_way = {name: False for name in setup.order}
        self._flags = [False for _ in range(Setup.MAX_FLAG + 1)]
        self._merges = {name: 0 for name in setup.order}

    def copied_board(self):
        """Another board in the same state."""
        board = Board(self._setup)
        board.take_over(self)
        return board

    def take_over(self, other):
        """Take over what holds on another board of the same set-up."""
        self._rung = dict(other._rung)
        self._disabled = dict(other._disabled)
        self._under_way = dict(other._under_way)
        self._flags = list(other._flags)
        self._merges = dict(other._merges)

    def _check_line(self, line):
        if line not in self._setup:
            raise UnknownLine(line)

    def _is_edge(self, line):
        return self._setup[line][1] == "edge"

    def ring(self, line):
        """Let a line ring; return "waits" or "merged"."""
        self._check_line(line)
        if put_changed(self._rung, line, True):
            return "waits"
        self._merges[line] += 1
        return "merged"

    def quiet(self, line):
        """Make a level low; return whether it was high."""
        self._check_line(line)
        if self._is_edge(line):
            raise NotLevel(line)
        return put_changed(self._rung, line, False)

    def mask(self, line):
        """Disable a line; return whether it was enabled."""
        self._check_line(line)
        return put_changed(self._disabled, line, True)

    def unmask(self, line):
        """Enable a line; return whether it was disabled."""
        self._check_line(line)
        return put_changed(self._disabled, line, False)

    def set_flag(self, flag):
        """Let a flag go up; return whether it was down."""
        check_flag(flag)
        return put_changed(self._flags, flag, True)

    def clear_flag(self, flag):
        """Let a flag go down; return whether it was up."""
        check_flag(flag)
        return put_changed(self._flags, flag, False)

    def act(self, word, what):
        """Do what a step does to lines and flags."""
        if word == "ring":
            self.ring(what)
        elif word == "quiet":
            self.quiet(what)
        elif word == "mask":
            self.mask(what)
        elif word == "unmask":
            self.unmask(what)
        elif word == "set":
            self.set_flag(what)
        elif word == "clear":
            self.clear_flag(what)

    def begin(self, line):
        """Let a line have a call."""
        # A level stays high until it is made quiet.
        if self._is_edge(line):
            self._rung[line] = False
        self._under_way[line] = True

    def end(self, line):
        """Let a line have no call any more."""
        self._under_way[line] = False

    def is_up(self, flag):
        """Whether a flag is up."""
        return self._flags[flag]

    def is_enabled(self, line):
        """Whether a line is enabled."""
        return not self._disabled[line]

    def is_high(self, line):
        """Whether a line is a level that is high."""
        return self._rung[line] and not self._is_edge(line)

    def waits(self, line):
        """Whether a line waits."""
        return self._rung[line] and (self._is_edge(line) or not self._under_way[line])

    def waiting_lines(self):
        """The lines that wait, in order."""
        return [line for line in self._setup.order if self.waits(line)]

    def ready_lines(self):
        """The lines that wait, are enabled and have no call, in order."""
        enabled = [line for line in self.waiting_lines() if self.is_enabled(line)]
        return [line for line in enabled if not self._under_way[line]]

    def disabled_lines(self):
        """The lines that are disabled, in order."""
        return [line for line in self._setup.order if self._disabled[line]]

    def high_lines(self):
        """The levels that are high, in order."""
        return [line for line in self._setup.order if self.is_high(line)]

    def merge_counts(self):
        """A dict from lines to how many of their rings, also those of steps, were merged."""
        return dict(self._merges)

    def raised_flags(self):
        """The flags that are up, ascending."""
        return [flag for flag, is_up in enumerate(self._flags) if is_up]

    def board_state(self):
        """All that tells how it goes on, but for what the calls of the processors tell."""
        rung = [line for line in self._setup.order if self._rung[line]]
        return (tuple(rung), tuple(self.disabled_lines()), tuple(self.raised_flags()))
