"""One processor with the lines of a set-up."""

from callbells.board import Board
from callbells.checks import check_number
from callbells.processor import Processor

MOST_TICKS = 10000


class Single:
    """A processor that goes on tick by tick, and deeds between the ticks."""

    def __init__(self, setup):
        self._setup = setup
        self._board = Board(setup)
        self._processor = Processor(setup, self._board)
        self._now = 0

    def __eq__(self, other):
        return isinstance(other, Single) and self._setup == other._setup and self._told() == other._told()

    def _told(self):
        return (self.state(), self._now, self._processor.spent_ticks())

    def state(self):
        """All that tells how it goes on, so neither the tick nor the spent ticks."""
        return (self._board.board_state(), self._processor.processor_state())

    def line_order(self):
        """The names of all lines, in order."""
        return self._setup.order

    def awaits_flag(self):
        """Whether the innermost call awaits a flag that is down."""
        return self._processor.awaits_flag()

    def merge_counts(self):
        """A dict from lines to how many of their rings were merged."""
        return self._board.merge_counts()

    def moved_on(self, ticks, spent):
        """Another one in the same state, so many ticks later, with so many more spent ticks."""
        single = self.copied()
        single._now += ticks
        single._processor.add_spent(spent)
        return single

    def copied(self):
        """Another one in the same state."""
        single = Single(self._setup)
        board = self._board.copied_board()
        single._board = board
        single._processor = self._processor.copied_onto(board)
        single._now = self._now
        return single

    def ring(self, line):
        """Let a line ring; return "waits" or "merged"."""
        return self._board.ring(line)

    def quiet(self, line):
        """Make a level low; return whether it was high."""
        return self._board.quiet(line)

    def mask(self, line):
        """Disable a line; return whether it was enabled."""
        return self._board.mask(line)

    def unmask(self, line):
        """Enable a line; return whether it was disabled."""
        return self._board.unmask(line)

    def set_flag(self, flag):
        """Let a flag go up; return whether it was down."""
        return self._board.set_flag(flag)

    def clear_flag(self, flag):
        """Let a flag go down; return whether it was up."""
        return self._board.clear_flag(flag)

    def tick(self):
        """Let one tick go by; return the list of what happened."""
        events = self._processor.take(self._board.ready_lines())
        events.extend(self._processor.go_on())
        self._now += 1
        return events

    def ticks(self, count):
        """Let a number of ticks go by; return the list of what happened, with the ticks."""
        check_number(count, 0, MOST_TICKS)
        events = []
        for _ in range(count):
            now = self._now
            events.extend([(now, *event) for event in self.tick()])
        return events

    @property
    def now(self):
        """The number of the next tick."""
        return self._now

    @property
    def waiting(self):
        """The lines that wait, in order."""
        return self._board.waiting_lines()

    @property
    def calls(self):
        """The calls (line, step, ticks), the outermost first."""
        return self._processor.call_rows()

    @property
    def queue(self):
        """The works (work, ticks), in the order in which they are first."""
        return self._processor.work_rows()

    @property
    def flags_up(self):
        """The flags that are up, ascending."""
        return self._board.raised_flags()

    @property
    def bar(self):
        """The bar."""
        return self._processor.bar_now()

    @property
    def masked(self):
        """The lines that are disabled, in order."""
        return self._board.disabled_lines()

    @property
    def highs(self):
        """The levels that are high, in order."""
        return self._board.high_lines()

    @property
    def spent(self):
        """The numbers of ticks of calls, spun, of works, and idle."""
        return self._processor.spent_ticks()
