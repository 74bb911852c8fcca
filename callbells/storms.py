"""Storms: lines that begin too often, and are held back for this."""

from callbells.checks import is_integer, spoilt_named

MAX_STORM = 99


def is_storm(setup, storm):
    """Whether a value is a storm of a line of a set-up."""
    if not isinstance(storm, tuple) or len(storm) != 4:
        return False
    line, *numbers = storm
    return line in setup and all([is_integer(number, 1, MAX_STORM) for number in numbers])


def spoilt_storm(setup, storms):
    """The index of the first storm that is spoilt, -1 for what is no tuple, or None."""
    if not isinstance(storms, tuple):
        return -1
    return spoilt_named(storms, len(setup), [is_storm(setup, storm) for storm in storms])


class StormWatch:
    """The begins that storms count, and until when lines are held back."""

    def __init__(self, storms):
        self._storms = {storm[0]: storm[1:] for storm in storms}
        # The ticks of the begins that were counted last, for each line.
        self._counted = {storm[0]: () for storm in storms}
        self._until = {storm[0]: -1 for storm in storms}

    def copy_watch(self, other):
        """Go on as another one of the same storms."""
        self._counted = dict(other._counted)
        self._until = dict(other._until)

    def note_begin(self, line, tick):
        """Count a begin of a line; return whether the line is held back from now on."""
        if line not in self._storms:
            return False
        most, _, hold = self._storms[line]
        counted = (*self._still_counted(line, tick), tick)
        self._counted[line] = counted
        if len(counted) <= most:
            return False
        self._until[line] = tick + hold
        return True

    def held_until(self, line, tick):
        """The last tick in which a line is held back, or None if it is not so in this tick."""
        if line not in self._storms or self._until[line] < tick:
            return None
        return self._until[line]

    def _still_counted(self, line, tick):
        """The begins that are counted together with one in this tick."""
        window = self._storms[line][1]
        return tuple([begin for begin in self._counted[line] if begin > tick - window])

    def watch_state(self, tick):
        """How long ago the counted begins were, and for how long lines are held, ahead of a tick."""
        state = []
        for line in self._storms:
            ages = [tick - begin for begin in self._still_counted(line, tick)]
            state.append((tuple(ages), max(0, self._until[line] + 1 - tick)))
        return tuple(state)
