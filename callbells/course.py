"""The course of a processor whose lines are rung by bells, up to where it repeats."""

from callbells.single import Single

# The first tick and the length of the repetition come to no more than this.
MOST_TICKS = 20000

# A copy of the processor is kept every so many ticks: one for each would be many.
STRIDE = 100


def ticks_until(bell, tick):
    """How many ticks later a bell rings next, 0 if it rings ahead of this very tick."""
    _, first, period = bell
    return first - tick if tick < first else (first - tick) % period


def ring_and_tick(single, bells):
    """Let the bells ring that ring now, and a tick go by; return what happened in it."""
    for bell in bells:
        if ticks_until(bell, single.now) == 0:
            single.ring(bell[0])
    return single.tick()


class Course:
    """What happens up to the tick ahead of which all is as it was ahead of an earlier one."""

    def __init__(self, setup, bells):
        self._bells = bells
        self._begin_ticks = {name: [] for name in setup.order}
        self._merge_ticks = {name: [] for name in setup.order}
        self._marks = []
        self._first = 0
        # 0 as long as no repetition is found.
        self._length = 0
        self._gained = (0, 0, 0, 0)
        self._play(Single(setup))

    def is_too_long(self):
        """Whether nothing is repeated within the ticks that are tried."""
        return self._length == 0

    def repeated(self):
        """The first tick of the repetition, and its length."""
        return (self._first, self._length)

    def gained_ticks(self):
        """The numbers of ticks of one repetition: of calls, spun, of works, and idle."""
        return self._gained

    def begins_within(self, line, count):
        """How many calls of a line begin in the first so many ticks."""
        return self._count_within(self._begin_ticks[line], count)

    def merges_within(self, line, count):
        """How many rings of a line are merged in the first so many ticks."""
        return self._count_within(self._merge_ticks[line], count)

    def begin_tick(self, line, number):
        """The tick in which a line begins for the time with this number, from 1, or None."""
        ticks = self._begin_ticks[line]
        if number <= len(ticks):
            return ticks[number - 1]
        recurring = self._recurring(ticks)
        if not recurring:
            return None
        turns, at = divmod(number - 1 - len(ticks), len(recurring))
        return recurring[at] + (turns + 1) * self._length

    def single_behind(self, count):
        """The processor behind so many ticks."""
        turns, played = self._folded(count)
        more = [turns * ticks for ticks in self._gained]
        return self._played_single(played).moved_on(turns * self._length, more)

    def _play(self, single):
        seen = {}
        ahead = self._all_ahead(single)
        while ahead not in seen and single.now < MOST_TICKS:
            seen[ahead] = single.now
            self._note_tick(single)
            ahead = self._all_ahead(single)
        if ahead in seen:
            self._first = seen[ahead]
            self._length = single.now - self._first
            early = self._played_single(self._first).spent
            self._gained = tuple([late - was for late, was in zip(single.spent, early)])

    def _all_ahead(self, single):
        distances = [ticks_until(bell, single.now) for bell in self._bells]
        return (single.state(), tuple(distances))

    def _note_tick(self, single):
        now = single.now
        if now % STRIDE == 0:
            self._marks.append(single.copied())
        for word, what in ring_and_tick(single, self._bells):
            if word == "begin":
                self._begin_ticks[what].append(now)
        for line, count in single.merge_counts().items():
            ticks = self._merge_ticks[line]
            ticks.extend([now] * (count - len(ticks)))

    def _played_single(self, tick):
        """The processor ahead of a tick that was played."""
        single = self._marks[tick // STRIDE].copied()
        for _ in range(tick % STRIDE):
            ring_and_tick(single, self._bells)
        return single

    def _folded(self, count):
        """How many times the repetition can be taken out of a number of ticks, and the rest."""
        if count < self._first:
            return (0, count)
        turns, rest = divmod(count - self._first, self._length)
        return (turns, self._first + rest)

    def _recurring(self, ticks):
        return [tick for tick in ticks if tick >= self._first]

    def _count_within(self, ticks, count):
        turns, played = self._folded(count)
        return len([tick for tick in ticks if tick < played]) + turns * len(self._recurring(ticks))
