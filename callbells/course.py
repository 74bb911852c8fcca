"""The course of a processor whose lines are rung by bells, up to where it repeats."""

from callbells.recurrence import Recurrence, ticks_until
from callbells.single import Single

# The first tick and the length of the repetition come to no more than this.
MOST_TICKS = 20000

# A copy of the processor is kept every so many ticks: one for each would be many.
STRIDE = 100


def ring_and_tick(single, bells):
    """Let the bells ring that ring now, and a tick go by; return what happened in it."""
    for line, first, period in bells:
        if ticks_until(first, period, single.now) == 0:
            single.ring(line)
    return single.tick()


class Course:
    """What happens up to the tick ahead of which all is as it was ahead of an earlier one."""

    def __init__(self, setup, bells):
        self._bells = bells
        self._begin_ticks = {name: [] for name in setup.order}
        self._merge_ticks = {name: [] for name in setup.order}
        self._marks = []
        # None as long as no repetition is found.
        self._recurrence = None
        self._gained = (0, 0, 0, 0)
        self._play(Single(setup))

    def is_too_long(self):
        """Whether nothing is repeated within the ticks that are tried."""
        return self._recurrence is None

    def repeated(self):
        """The first tick of the repetition, and its length."""
        return self._recurrence.told_pair()

    def gained_ticks(self):
        """The numbers of ticks of one repetition: of calls, spun, of works, and idle."""
        return self._gained

    def begins_within(self, line, count):
        """How many calls of a line begin in the first so many ticks."""
        return self._recurrence.count_within(self._begin_ticks[line], count)

    def merges_within(self, line, count):
        """How many rings of a line are merged in the first so many ticks."""
        return self._recurrence.count_within(self._merge_ticks[line], count)

    def begin_tick(self, line, number):
        """The tick in which a line begins for the time with this number, from 1, or None."""
        return self._recurrence.tick_of(self._begin_ticks[line], number)

    def single_behind(self, count):
        """The processor behind so many ticks."""
        turns, played = self._recurrence.folded(count)
        more = [turns * ticks for ticks in self._gained]
        return self._played_single(played).moved_on(count - played, more)

    def _play(self, single):
        seen = {}
        ahead = self._all_ahead(single)
        while ahead not in seen and single.now < MOST_TICKS:
            seen[ahead] = single.now
            self._note_tick(single)
            ahead = self._all_ahead(single)
        if ahead in seen:
            first = seen[ahead]
            self._recurrence = Recurrence(first, single.now - first)
            early = self._played_single(first).spent
            self._gained = tuple([late - was for late, was in zip(single.spent, early)])

    def _all_ahead(self, single):
        distances = [ticks_until(first, period, single.now) for _, first, period in self._bells]
        return (single.state(), tuple(distances))

    def _note_tick(self, single):
        now = single.now
        if now % STRIDE == 0:
            self._marks.append(single.copied())
        for word, what in ring_and_tick(single, self._bells):
            if word == "begin":
                self._begin_ticks[what].append(now)
        for line, count in single.merge_counts().items():
            ticks = self._merge_ticks[line]
            ticks.extend([now] * (count - len(ticks)))

    def _played_single(self, tick):
        """The processor ahead of a tick that was played."""
        single = self._marks[tick // STRIDE].copied()
        for _ in range(tick % STRIDE):
            ring_and_tick(single, self._bells)
        return single
