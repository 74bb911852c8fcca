"""Houses in which devices ring by clocks, however far ahead."""

from callbells.checks import check_number, is_integer, spoilt_item
from callbells.errors import InvalidClock, TooLong, UnknownLine, UnknownWork
from callbells.recurrence import Recurrence, ticks_until

MAX_CLOCKS = 6
MAX_FIRST = 500
MAX_PERIOD = 500
MOST = 10 ** 18

# The first tick and the length of the repetition come to no more than this.
MOST_TICKS = 4000


def is_clock(setup, clock):
    """Whether a value is a clock of an edge of a set-up."""
    if not isinstance(clock, tuple) or len(clock) != 3:
        return False
    line, first, period = clock
    if line not in setup or setup[line][1] != "edge":
        return False
    return is_integer(first, 0, MAX_FIRST) and is_integer(period, 1, MAX_PERIOD)


def spoilt_clock(setup, clocks):
    """The index of the first clock that is spoilt, or None."""
    return spoilt_item(clocks, MAX_CLOCKS, lambda clock: is_clock(setup, clock))


def told_state(house):
    """All that is told of the processors of a house, and of its lines in their order."""
    rooms = [house[at] for at in range(house.processor_count)]
    lines = [house(line)[:5] for line in house.setup.order]
    return (tuple(rooms), tuple(lines))


class Clockwork:
    """A house, as it is at first, with clocks (line, first, period); it never changes."""

    def __init__(self, house, clocks):
        at = spoilt_clock(house.setup, clocks)
        if at is not None:
            raise InvalidClock(at)
        self._setup = house.setup
        self._clocks = clocks
        self._begin_ticks = {line[0]: [] for line in self._setup.lines}
        self._done_ticks = {work[0]: [] for work in self._setup.works}
        # What is told ahead of each tick that was played.
        self._states = []
        self._recurrence = None
        # Played when it is asked for first, and None then.
        self._fresh = house.as_at_first()

    def begun_by(self, line, tick):
        """How often a line has begun after a number of ticks."""
        if line not in self._setup:
            raise UnknownLine(line)
        check_number(tick, 0, MOST)
        return self._found_recurrence().count_within(self._begin_ticks[line], tick)

    def done_by(self, work, tick):
        """How often a work has ended after a number of ticks."""
        if not isinstance(work, str) or work not in self._done_ticks:
            raise UnknownWork(work)
        check_number(tick, 0, MOST)
        return self._found_recurrence().count_within(self._done_ticks[work], tick)

    def state_after(self, tick):
        """What is told of all processors and lines after a number of ticks."""
        check_number(tick, 0, MOST)
        _, played = self._found_recurrence().folded(tick)
        return self._states[played]

    def repetition(self):
        """The first tick from which on all repeats, and after how many ticks."""
        return self._found_recurrence().told_pair()

    def _found_recurrence(self):
        if self._fresh is not None:
            house = self._fresh
            self._fresh = None
            self._play(house)
        if self._recurrence is None:
            raise TooLong("nothing is repeated early enough")
        return self._recurrence

    def _play(self, house):
        seen = {}
        ahead = self._all_ahead(house)
        while ahead not in seen and house.now < MOST_TICKS:
            seen[ahead] = house.now
            self._states.append(told_state(house))
            self._note_tick(house)
            ahead = self._all_ahead(house)
        if ahead in seen:
            self._recurrence = Recurrence(seen[ahead], house.now - seen[ahead])

    def _all_ahead(self, house):
        distances = [ticks_until(first, period, house.now) for _, first, period in self._clocks]
        return (house.state_ahead(), tuple(distances))

    def _note_tick(self, house):
        for line, first, period in self._clocks:
            if ticks_until(first, period, house.now) == 0:
                house.ring(line)
        for event in house.tick():
            if event[0] == "begin":
                self._begin_ticks[event[2]].append(event[1])
            elif event[0] == "done":
                self._done_ticks[event[2]].append(event[1])
