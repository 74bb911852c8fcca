"""Desks: a house led step by step, with deeds that can be reverted."""

from callbells.deedforms import do_act, is_act
from callbells.errors import InvalidDeed


class Block:
    """What a desk was at the beginning of a block, and the block around it."""

    def __init__(self, present, past, future, outer):
        # None as soon as the block is kept: then there is nothing to go back to at its end.
        self.present = present
        self.past = past
        self.future = future
        self.outer = outer


class Desk:
    """A house of its own, and the deeds in effect; a context manager."""

    def __init__(self, house):
        # No house that stands here is changed, and no list, so that blocks and rows keep them.
        self._present = house.copied()
        # Tuples (deed, house ahead of it), and (deed, house behind it), those next to now last.
        self._past = []
        self._future = []
        self._block = None

    def __enter__(self):
        self._block = Block(self._present, self._past, self._future, self._block)
        return self

    def __exit__(self, kind, value, trace):
        if self._block.present is not None:
            self._present = self._block.present
            self._past = self._block.past
            self._future = self._block.future
        self._block = self._block.outer

    def house(self):
        """A house of its own as it is now."""
        return self._present.copied()

    @property
    def history(self):
        """The list of the deeds in effect."""
        return [row[0] for row in self._past]

    def do(self, deed):
        """Do a deed; return its result."""
        return self.apply([deed])[0]

    def apply(self, deeds):
        """Do a list of deeds, all or none; return the list of their results."""
        for at, deed in enumerate(deeds):
            if not is_act(deed):
                raise InvalidDeed(at)
        present = self._present
        rows = []
        results = []
        for deed in deeds:
            rows.append((deed, present))
            present = present.copied()
            results.append(do_act(present, deed))
        if rows:
            self._present = present
            self._past = [*self._past, *rows]
            self._future = []
        return results

    def undo(self):
        """Revert the last deed in effect; return whether there was one."""
        if not self._past:
            return False
        deed, before = self._past[-1]
        self._future = [*self._future, (deed, self._present)]
        self._past = self._past[:-1]
        self._present = before
        return True

    def redo(self):
        """Perform the deed again that was reverted last; return whether there was one."""
        if not self._future:
            return False
        deed, behind = self._future[-1]
        self._past = [*self._past, (deed, self._present)]
        self._future = self._future[:-1]
        self._present = behind
        return True

    def keep(self):
        """Let everything remain as it is at the end of the present block."""
        if self._block is not None:
            self._block.present = None


def tried(desk, deeds, *, is_kept=False):
    """Do deeds in a block, which is kept if asked for; return their results."""
    with desk:
        if is_kept:
            desk.keep()
        return desk.apply(deeds)
