"""What is known of all ticks, however far ahead, from those up to where all repeats."""


class Recurrence:
    """From tick `first` on, all is as it is `length` ticks later."""

    def __init__(self, first, length):
        self._first = first
        self._length = length

    def told_pair(self):
        """The first tick from which on all repeats, and after how many ticks."""
        return (self._first, self._length)

    def folded(self, count):
        """How many times the repetition can be taken out of a number of ticks, and the rest."""
        if count < self._first:
            return (0, count)
        turns, rest = divmod(count - self._first, self._length)
        return (turns, self._first + rest)

    def count_within(self, ticks, count):
        """How many of the ticks in which something happens are among the first so many."""
        turns, played = self.folded(count)
        return len([tick for tick in ticks if tick < played]) + turns * len(self._recurring(ticks))

    def tick_of(self, ticks, number):
        """The tick in which something happens for the time with this number, from 1, or None."""
        if number <= len(ticks):
            return ticks[number - 1]
        recurring = self._recurring(ticks)
        if not recurring:
            return None
        turns, at = divmod(number - 1 - len(ticks), len(recurring))
        return recurring[at] + (turns + 1) * self._length

    def _recurring(self, ticks):
        return [tick for tick in ticks if tick >= self._first]


def ticks_until(first, period, tick):
    """How many ticks later what rings in a period rings next, 0 if ahead of this very tick."""
    return first - tick if tick < first else (first - tick) % period
