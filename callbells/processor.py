"""One processor: its calls, its bar and its works."""

from callbells.works import WorkQueue

# Which of the four numbers of spent ticks is which.
CALLED = 0
SPUN = 1
WORKED = 2
IDLE = 3


class Processor:
    """Calls one above another, over the lines and flags of a board."""

    def __init__(self, setup, board):
        self._setup = setup
        self._board = board
        self._bar = 0
        # Tuples (line, step, ticks, kept bar), the innermost call last.
        self._stack = []
        self._jobs = WorkQueue(setup.works)
        self._counts = [0, 0, 0, 0]

    def copied_onto(self, board):
        """Another processor in the same state, over another board."""
        processor = Processor(self._setup, board)
        processor._bar = self._bar
        processor._stack = list(self._stack)
        processor._jobs.copy_rows(self._jobs)
        processor._counts = list(self._counts)
        return processor

    def take(self, lines):
        """Begin the first one of lines that can begin, if it is let by; return what happened."""
        if not lines or not self._lets_by(lines[0]):
            return []
        line = lines[0]
        self._board.begin(line)
        self._stack.append((line, 0, 0, self._bar))
        return [("begin", line), *self._go_through()]

    def go_on(self):
        """Let the calls pass flags that are up, spend one tick, and return what happened."""
        events = []
        while self._passes_flag():
            events.extend(self._go_through())
        events.extend(self._spend())
        return events

    def bar_now(self):
        """The bar."""
        return self._bar

    def call_rows(self):
        """The list of tuples (line, step, ticks), the outermost call first."""
        return [call[:3] for call in self._stack]

    def work_rows(self):
        """The list of tuples (work, ticks)."""
        return self._jobs.rows()

    def hand_over_works(self, other):
        """Queue all works on another processor, in the order in which they are first."""
        moving = self._jobs.rows()
        self._jobs.drop_rows()
        for work, ticks in moving:
            other._jobs.put(work, ticks)

    def spent_ticks(self):
        """The numbers of ticks of calls, spun, of works, and idle."""
        return tuple(self._counts)

    def add_spent(self, spent):
        """Count ticks that were spent without having been played here."""
        self._counts = [was + more for was, more in zip(self._counts, spent)]

    def awaits_flag(self):
        """Whether the innermost call awaits a flag that is down."""
        if not self._stack:
            return False
        word, what = self._present_step()
        return word == "await" and not self._board.is_up(what)

    def processor_state(self):
        """The bar, the calls with the bars that they have kept, and the works."""
        return (self._bar, tuple(self._stack), tuple(self._jobs.rows()))

    def _lets_by(self, line):
        floor = self._bar
        if self._stack:
            floor = max(floor, self._setup[self._stack[-1][0]][2])
        return self._setup[line][2] > floor

    def _present_step(self):
        line, step = self._stack[-1][:2]
        return self._setup[line][3][step]

    def _passes_flag(self):
        if not self._stack:
            return False
        word, what = self._present_step()
        return word == "await" and self._board.is_up(what)

    def _takes_no_tick(self, step):
        word, what = step
        if word == "await":
            return self._board.is_up(what)
        return word != "run"

    def _act(self, step):
        word, what = step
        if word == "bar":
            self._bar = what
        elif word == "later":
            self._jobs.put(what)
        else:
            self._board.act(word, what)

    def _go_through(self):
        """Let the innermost call, at a step with no tick spent, go on up to one that takes any."""
        line, step, ticks, kept = self._stack.pop()
        handler = self._setup[line][3]
        while step < len(handler) and self._takes_no_tick(handler[step]):
            self._act(handler[step])
            step += 1
        if step < len(handler):
            self._stack.append((line, step, ticks, kept))
            return []
        self._bar = kept
        self._board.end(line)
        return [("end", line)]

    def _spend(self):
        if not self._stack:
            return self._spend_beside_calls()
        line, step, ticks, kept = self._stack[-1]
        word, what = self._present_step()
        if word == "await":
            self._counts[SPUN] += 1
            return []
        self._counts[CALLED] += 1
        if ticks + 1 < what:
            self._stack[-1] = (line, step, ticks + 1, kept)
            return []
        self._stack[-1] = (line, step + 1, 0, kept)
        return self._go_through()

    def _spend_beside_calls(self):
        if self._jobs.is_empty():
            self._counts[IDLE] += 1
            return []
        self._counts[WORKED] += 1
        work = self._jobs.spend()
        return [] if work is None else [("done", work)]
