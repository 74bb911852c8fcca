"""When lines can have rung, by a log of the begins of calls in a plain set-up."""

from callbells.checks import is_integer
from callbells.errors import InvalidLog
from callbells.setups import check_plain

MAX_TICK = 10 ** 6


def first_impossible(setup, log):
    """The index of the first item of a log that cannot be, or None."""
    check_plain(setup)
    at = len(played_ranges(setup, log))
    return at if at < len(log) else None


def ring_ranges(setup, log):
    """The first and the last tick ahead of which the line of each item can have rung for it."""
    at = first_impossible(setup, log)
    if at is not None:
        raise InvalidLog(at)
    return played_ranges(setup, log)


def played_ranges(setup, log):
    """The list of the tuples (earliest, latest) of the items ahead of one that cannot be."""
    play = LogPlay(setup)
    ranges = []
    for item in log:
        if not play.is_formed(item):
            return ranges
        tick, line = item
        play.go_on_until(tick)
        if not play.lets_by(line):
            return ranges
        ranges.append((play.earliest_ring(line), tick))
        play.begin(line)
    return ranges


class LogPlay:
    """The calls of a plain set-up, begun as a log tells."""

    def __init__(self, setup):
        self._ranks = {line[0]: line[2] for line in setup.lines}
        self._costs = {line[0]: setup.ticks_of(line[0]) for line in setup.lines}
        self._now = 0
        # The least tick of an item that comes next.
        self._least = 0
        # Tuples (rank, ticks that are left), the innermost call last.
        self._stack = []
        # The last tick in which a line began, or would have begun if it had waited.
        self._open = {line[0]: -1 for line in setup.lines}

    def is_formed(self, item):
        """Whether a value is an item with a line and a tick behind that of the item before."""
        if not isinstance(item, tuple) or len(item) != 2:
            return False
        tick, line = item
        return is_integer(tick, self._least, MAX_TICK) and isinstance(line, str) and line in self._ranks

    def go_on_until(self, tick):
        """Let the ticks up to this one go by, without it."""
        while self._now < tick:
            if not self._stack:
                self._go_by(0, tick - self._now)
                return
            rank, left = self._stack.pop()
            spent = min(left, tick - self._now)
            if left > spent:
                self._stack.append((rank, left - spent))
            self._go_by(rank, spent)

    def lets_by(self, line):
        """Whether a line can begin now."""
        return not self._stack or self._stack[-1][0] < self._ranks[line]

    def earliest_ring(self, line):
        """The first tick ahead of which a line can have rung to begin just now."""
        return self._open[line] + 1

    def begin(self, line):
        """Let a call of a line begin now."""
        self._stack.append((self._ranks[line], self._costs[line]))
        self._open[line] = self._now
        self._least = self._now + 1

    def _go_by(self, rank, ticks):
        """Let ticks go by in which a rank, 0 without a call, lets only greater ones by."""
        self._now += ticks
        for line in list(self._open):
            if self._ranks[line] > rank:
                self._open[line] = self._now - 1
