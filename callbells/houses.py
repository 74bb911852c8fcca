"""Houses: several processors that come and go, and to which lines are led."""

from callbells.checks import check_number, is_integer
from callbells.errors import AlreadyOn, InvalidHouse, InvalidNumber, LastOne
from callbells.errors import NotAllowed, NotOn, NotWaiting, UnknownLine, UnknownProcessor
from callbells.houseboard import HouseBoard
from callbells.processor import Processor
from callbells.routes import Router, spoilt_route
from callbells.storms import StormWatch, spoilt_storm

MAX_PROCESSORS = 6
MOST_TICKS = 10000


class House:
    """Processors that go on tick by tick, and deeds between the ticks."""

    def __init__(self, setup, count, *, routes=(), storms=()):
        check_house(setup, count, routes, storms)
        self._setup = setup
        self._count = count
        self._routes = routes
        self._storms = storms
        self._board = HouseBoard(setup)
        self._router = Router(setup, count, routes)
        self._watch = StormWatch(storms)
        self._states = ["on"] * count
        self._processors = [Processor(setup, self._board) for _ in range(count)]
        self._begin_totals = {line[0]: 0 for line in setup.lines}
        self._done_totals = {work[0]: 0 for work in setup.works}
        self._events = []

    def as_at_first(self):
        """Another house that was made of the same, as it is at first."""
        return House(self._setup, self._count, routes=self._routes, storms=self._storms)

    def copied(self):
        """Another house in the same state."""
        house = self.as_at_first()
        board = self._board.copied_board()
        house._board = board
        house._router.copy_turns(self._router)
        house._watch.copy_watch(self._watch)
        house._states = list(self._states)
        house._processors = [processor.copied_onto(board) for processor in self._processors]
        house._begin_totals = dict(self._begin_totals)
        house._done_totals = dict(self._done_totals)
        house._events = list(self._events)
        return house

    def __len__(self):
        return len(self._running())

    def __contains__(self, x):
        return x in self._setup

    def __getitem__(self, at):
        self._check_processor(at)
        processor = self._processors[at]
        calls = [call[0] for call in processor.call_rows()]
        works = [row[0] for row in processor.work_rows()]
        return (self._states[at], processor.bar_now(), tuple(calls), tuple(works))

    def __iter__(self):
        raise TypeError("a house is not iterated over")

    def __call__(self, line):
        self._check_line(line)
        return self._line_row(line)

    def __eq__(self, other):
        return isinstance(other, House) and self._made_of() == other._made_of() and self._told() == other._told()

    def _made_of(self):
        return (self._setup, self._count, self._routes, self._storms)

    def _told(self):
        board = self._board
        lines = [self._line_row(line) for line in self._setup.order]
        rings = (board.ring_rows(), board.all_fates())
        return (board.tick_number(), board.raised_flags(), lines, self._rooms(), self._events, rings)

    def _rooms(self):
        """The states of all processors, and what is told of each."""
        rooms = [processor.processor_state() for processor in self._processors]
        return (tuple(self._states), tuple(rooms))

    def state_ahead(self):
        """All that tells how it goes on, whatever the number of the tick is."""
        board = self._board
        waiting = self._watch.watch_state(board.tick_number())
        return (board.board_state(), board.place_state(), self._rooms(), self._router.turn_state(), waiting)

    def ring(self, line):
        """Let a line ring; return "waits" or "merged"."""
        return self._board.ring(line)

    def quiet(self, line):
        """Make a level low; return whether it was high."""
        return self._board.quiet(line)

    def mask(self, line):
        """Disable a line; return whether it was enabled."""
        return self._board.mask(line)

    def unmask(self, line):
        """Enable a line; return whether it was disabled."""
        return self._board.unmask(line)

    def set_flag(self, flag):
        """Let a flag go up; return whether it was down."""
        return self._board.set_flag(flag)

    def clear_flag(self, flag):
        """Let a flag go down; return whether it was up."""
        return self._board.clear_flag(flag)

    def leave(self, processor):
        """Let a processor leave; return the lines that are not placed there any more."""
        self._check_processor(processor)
        if self._states[processor] != "on":
            raise NotOn("this processor is leaving or off")
        if len(self._running()) == 1:
            raise LastOne("no other processor is on")
        self._states[processor] = "leaving"
        return self._board.take_off(processor)

    def come(self, processor):
        """Let a processor be on; return whether it was leaving."""
        self._check_processor(processor)
        was = self._states[processor]
        if was == "on":
            raise AlreadyOn("this processor is on")
        self._states[processor] = "on"
        return was == "leaving"

    def move(self, line, processor):
        """Place a line on a processor; return where it was placed, or None."""
        self._check_line(line)
        self._check_processor(processor)
        board = self._board
        if not board.waits(line) or board.owner_of(line) is not None:
            raise NotWaiting("this line does not wait, or is under way")
        if not self._router.allows(line, processor) or self._states[processor] != "on":
            raise NotAllowed("this line is not placed on this processor")
        was = board.place_of(line)
        self._place(line, processor)
        return was

    def tick(self):
        """Let one tick go by; return the list of its events."""
        start = len(self._events)
        self._place_lines()
        for at in self._running():
            self._note_events(at, self._processors[at].take(self._board.ready_on(at)))
        for at in range(self._count):
            if self._states[at] != "off":
                self._note_events(at, self._processors[at].go_on())
        self._let_go_off()
        self._board.pass_tick()
        return self._events[start:]

    def ticks(self, count):
        """Let a number of ticks go by; return the list of their events."""
        check_number(count, 0, MOST_TICKS)
        events = []
        for _ in range(count):
            events.extend(self.tick())
        return events

    def fate(self, number):
        """What became of the ring with a number."""
        if not is_integer(number, 0, len(self._board.ring_rows()) - 1):
            raise InvalidNumber("no ring that has happened has this number")
        return self._board.ring_fate(number)

    def ring_of(self, line):
        """The number of the ring with which a line waits, or None."""
        self._check_line(line)
        return self._board.ring_number(line)

    @property
    def setup(self):
        """The set-up, as it was given."""
        return self._setup

    @property
    def processor_count(self):
        """The number of processors, as it was given."""
        return self._count

    @property
    def routes(self):
        """The tuple of the routes, as it was given."""
        return self._routes

    @property
    def storms(self):
        """The tuple of the storms, as it was given."""
        return self._storms

    @property
    def now(self):
        """The number of the next tick."""
        return self._board.tick_number()

    @property
    def flags_up(self):
        """The flags that are up, ascending."""
        return self._board.raised_flags()

    @property
    def begin_counts(self):
        """A dict from lines to how often they have begun."""
        return dict(self._begin_totals)

    @property
    def done_counts(self):
        """A dict from works to how often they are done."""
        return dict(self._done_totals)

    @property
    def log(self):
        """The list of all events, in order."""
        return list(self._events)

    @property
    def rings(self):
        """The list of (tick, line) of all rings of edges."""
        return self._board.ring_rows()

    def _check_line(self, line):
        if line not in self._setup:
            raise UnknownLine(line)

    def _check_processor(self, processor):
        if not is_integer(processor, 0, self._count - 1):
            raise UnknownProcessor(processor)

    def _running(self):
        """The processors that are on."""
        return [at for at in range(self._count) if self._states[at] == "on"]

    def _line_row(self, line):
        board = self._board
        held = self._watch.held_until(line, board.tick_number())
        signs = (board.is_enabled(line), board.is_high(line), board.waits(line))
        return (*signs, board.place_of(line), board.owner_of(line), held)

    def _place(self, line, processor):
        self._board.put_on(line, processor)
        self._events.append(("place", self._board.tick_number(), line, processor))

    def _place_lines(self):
        now = self._board.tick_number()
        for line in self._board.unplaced_lines():
            if self._watch.held_until(line, now) is None:
                processor = self._router.choose(line, self._states, self._board)
                if processor is not None:
                    self._place(line, processor)

    def _note_events(self, processor, events):
        now = self._board.tick_number()
        for word, what in events:
            self._events.append((word, now, what, processor))
            if word == "done":
                self._done_totals[what] += 1
            elif word == "begin":
                self._begin_totals[what] += 1
                if self._watch.note_begin(what, now):
                    self._events.append(("held", now, what))

    def _let_go_off(self):
        """Let the processors be off that are leaving and have no calls."""
        for at in range(self._count):
            if self._states[at] == "leaving" and not self._processors[at].call_rows():
                self._states[at] = "off"
                self._events.append(("off", self._board.tick_number(), at))
                self._move_works(at)

    def _move_works(self, processor):
        rows = self._processors[processor].work_rows()
        crowds = [(len(self._processors[at].work_rows()), at) for at in self._running()]
        _, target = min(crowds)
        self._processors[processor].hand_over_works(self._processors[target])
        for work, _ in rows:
            self._events.append(("moved", self._board.tick_number(), work, target))


def check_house(setup, count, routes, storms):
    """Raise InvalidHouse with the first part that is spoilt, if one is."""
    if not is_integer(count, 1, MAX_PROCESSORS):
        raise InvalidHouse("count", -1)
    at = spoilt_route(setup, count, routes)
    if at is not None:
        raise InvalidHouse("routes", at)
    at = spoilt_storm(setup, storms)
    if at is not None:
        raise InvalidHouse("storms", at)
