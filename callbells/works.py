"""The queue of the works that are left for later."""


class WorkQueue:
    """Works with the ticks that were spent on them, in the order in which they are first."""

    def __init__(self, works):
        self._ranks = {work[0]: work[1] for work in works}
        self._lengths = {work[0]: work[2] for work in works}
        self._rows = []

    def copy_rows(self, other):
        """Take over what is in another queue of the same works."""
        self._rows = other.rows()

    def rows(self):
        """The list of tuples (work, ticks)."""
        return list(self._rows)

    def is_empty(self):
        """Whether no work is queued."""
        return not self._rows

    def put(self, work, ticks=0):
        """Queue a work with ticks spent on it, unless none are and it is queued so already."""
        if ticks == 0 and (work, 0) in self._rows:
            return
        rank = self._ranks[work]
        ahead = [name for name, _ in self._rows if self._ranks[name] >= rank]
        self._rows.insert(len(ahead), (work, ticks))

    def drop_rows(self):
        """Let no work be queued any more."""
        self._rows = []

    def spend(self):
        """Spend a tick on the first work; return it if it is done by this, otherwise None."""
        work, ticks = self._rows[0]
        if ticks + 1 < self._lengths[work]:
            self._rows[0] = (work, ticks + 1)
            return None
        self._rows.pop(0)
        return work
