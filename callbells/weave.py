"""What holds in a weaving, and the moves that lead from one state to another."""

# The parts of a state: which lines wait and are masked, which flags are up and how often each
# line has begun, all by their indexes, and the places of the processors. A place is a tuple
# (calls, bar, works), a call a tuple (line's index, step, kept bar), the innermost one last.
WAITS = 0
MASKED = 1
FLAGS = 2
BEGINS = 3
PLACES = 4


def with_item(items, at, value):
    """A tuple with another item at an index."""
    return (*items[:at], value, *items[at + 1:])


def effect_of(word):
    """To which part of a state a step puts something, and what, or None."""
    if word == "ring":
        return (WAITS, True)
    if word in ("mask", "unmask"):
        return (MASKED, word == "mask")
    if word in ("set", "clear"):
        return (FLAGS, word == "set")
    return None


class Weave:
    """The states of a weaving; they are tuples, and a Weave never changes."""

    def __init__(self, setup, count):
        self._lines = setup.lines
        self._count = count
        self._indexes = {line[0]: at for at, line in enumerate(setup.lines)}
        self._names = sorted([line[0] for line in setup.lines])
        self._work_ranks = {work[0]: work[1] for work in setup.works}
        self._flag_count = setup.MAX_FLAG + 1

    def first_state(self, rings):
        """The state at first, behind the rings."""
        many = len(self._lines)
        waits = tuple([line[0] in rings for line in self._lines])
        flags = (False,) * self._flag_count
        return (waits, (False,) * many, flags, (0,) * many, (((), 0, ()),) * self._count)

    def moves_from(self, state):
        """The moves that can be done, in ascending order."""
        under_way = [call[0] for calls, _, _ in state[PLACES] for call in calls]
        begins = []
        for name in self._names:
            at = self._indexes[name]
            if state[WAITS][at] and not state[MASKED][at] and at not in under_way:
                places = [p for p in range(self._count) if self._lets_by(state[PLACES][p], at)]
                begins.extend([("begin", name, processor) for processor in places])
        steps = [("step", p) for p in range(self._count) if self._can_step(state[PLACES][p], state)]
        return begins + steps

    def state_behind(self, state, move):
        """The state behind a move that can be done."""
        if move[0] == "begin":
            return self._begun(state, self._indexes[move[1]], move[2])
        if state[PLACES][move[1]][0]:
            return self._stepped(state, move[1])
        return self._worked(state, move[1])

    def end_of(self, state):
        """The end in a state from which no move can be done."""
        stuck = [processor for processor in range(self._count) if state[PLACES][processor][0]]
        if stuck:
            return ("stuck", tuple(stuck))
        flags = [flag for flag, is_up in enumerate(state[FLAGS]) if is_up]
        return ("rest", tuple(flags), state[BEGINS])

    def _lets_by(self, place, at):
        calls, bar, _ = place
        floor = max(bar, self._lines[calls[-1][0]][2]) if calls else bar
        return self._lines[at][2] > floor

    def _next_step(self, place):
        at, step, _ = place[0][-1]
        return self._lines[at][3][step]

    def _can_step(self, place, state):
        calls, _, works = place
        if not calls:
            return len(works) > 0
        word, what = self._next_step(place)
        return word != "await" or state[FLAGS][what]

    def _begun(self, state, at, processor):
        waits, masked, flags, begins, places = state
        calls, bar, works = places[processor]
        place = ((*calls, (at, 0, bar)), bar, works)
        counts = with_item(begins, at, begins[at] + 1)
        return (with_item(waits, at, False), masked, flags, counts, with_item(places, processor, place))

    def _stepped(self, state, processor):
        """The state behind the next step of the innermost call of a processor."""
        places = state[PLACES]
        word, what = self._next_step(places[processor])
        following = with_item(state, PLACES, with_item(places, processor, self._place_behind(places[processor])))
        effect = effect_of(word)
        if effect is None:
            return following
        part, value = effect
        at = what if part == FLAGS else self._indexes[what]
        return with_item(following, part, with_item(following[part], at, value))

    def _place_behind(self, place):
        """The calls, bar and works behind the next step of the innermost call."""
        calls, bar, works = place
        word, what = self._next_step(place)
        if word == "bar":
            bar = what
        if word == "later" and what not in works:
            works = (*works, what)
        at, step, kept = calls[-1]
        if step + 1 == len(self._lines[at][3]):
            return (calls[:-1], kept, works)
        return ((*calls[:-1], (at, step + 1, kept)), bar, works)

    def _worked(self, state, processor):
        """The state behind the first work of a processor without calls."""
        calls, bar, works = state[PLACES][processor]
        ranks = [self._work_ranks[work] for work in works]
        first = ranks.index(max(ranks))
        place = (calls, bar, (*works[:first], *works[first + 1:]))
        return with_item(state, PLACES, with_item(state[PLACES], processor, place))
