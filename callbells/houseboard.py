"""The lines and flags of a house: also where lines are, and what became of rings."""

from callbells.board import Board


class HouseBoard(Board):
    """What holds in the whole house, whichever processor a line is on."""

    def __init__(self, setup):
        super().__init__(setup)
        self._tick = 0
        self._places = {name: None for name in setup.order}
        self._owners = {name: None for name in setup.order}
        self._rings = []
        # None as long as a line waits with the ring of this number.
        self._fates = []
        self._numbers = {name: None for name in setup.order}

    def copied_board(self):
        """Another board in the same state."""
        board = HouseBoard(self._setup)
        board.take_over(self)
        board._tick = self._tick
        board._places = dict(self._places)
        board._owners = dict(self._owners)
        board._rings = list(self._rings)
        board._fates = list(self._fates)
        board._numbers = dict(self._numbers)
        return board

    def ring(self, line):
        """Let a line ring; return "waits" or "merged"."""
        word = super().ring(line)
        if self._is_edge(line):
            self._note_ring(line, word == "merged")
        return word

    def _note_ring(self, line, is_merged):
        if is_merged:
            self._fates.append(("merged", self._numbers[line]))
        else:
            self._fates.append(None)
            self._numbers[line] = len(self._rings)
        self._rings.append((self._tick, line))

    def quiet(self, line):
        """Make a level low, so that it is not placed any more; return whether it was high."""
        was_high = super().quiet(line)
        self._places[line] = None
        return was_high

    def begin(self, line):
        """Let a line have a call on the processor where it is placed."""
        super().begin(line)
        place = self._places[line]
        number = self._numbers[line]
        if number is not None:
            self._fates[number] = ("served", self._tick, place)
        self._numbers[line] = None
        self._places[line] = None
        self._owners[line] = place

    def end(self, line):
        """Let a line have no call any more."""
        super().end(line)
        self._owners[line] = None

    def put_on(self, line, processor):
        """Place a line on a processor."""
        self._places[line] = processor

    def take_off(self, processor):
        """Let no line be placed on a processor any more; return those that were, in order."""
        lines = self.lines_on(processor)
        for line in lines:
            self._places[line] = None
        return lines

    def pass_tick(self):
        """Let the number of the tick be that of the next one."""
        self._tick += 1

    def tick_number(self):
        """The number of the present tick, or of the next one between two ticks."""
        return self._tick

    def place_of(self, line):
        """The processor on which a line is placed, or None."""
        return self._places[line]

    def owner_of(self, line):
        """The processor on which a line is under way, or None."""
        return self._owners[line]

    def lines_on(self, processor):
        """The lines that are placed on a processor, in order."""
        return [line for line in self._setup.order if self._places[line] == processor]

    def ready_on(self, processor):
        """The lines that are placed on a processor and enabled, in order."""
        return [line for line in self.lines_on(processor) if self.is_enabled(line)]

    def unplaced_lines(self):
        """The lines that wait, are enabled, have no call and are not placed, in order."""
        return [line for line in self.ready_lines() if self._places[line] is None]

    def load_of(self, processor):
        """The number of the lines that are placed or under way on a processor."""
        owned = [line for line in self._setup.order if self._owners[line] == processor]
        return len(self.lines_on(processor)) + len(owned)

    def ring_rows(self):
        """The list of tuples (tick, line) of all rings of edges."""
        return list(self._rings)

    def ring_number(self, line):
        """The number of the ring with which a line waits, or None."""
        return self._numbers[line]

    def ring_fate(self, number):
        """What became of a ring."""
        fate = self._fates[number]
        if fate is None:
            return ("waits", self._places[self._rings[number][1]])
        return fate

    def all_fates(self):
        """The list of what became of all rings."""
        return [self.ring_fate(number) for number in range(len(self._fates))]

    def place_state(self):
        """Where all lines are placed and under way, in their order."""
        return tuple([(self._places[line], self._owners[line]) for line in self._setup.order])
