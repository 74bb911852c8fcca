"""Routes: on which processors the lines of a house are placed, and by which rule."""

from callbells.checks import is_integer, spoilt_named

RULES = ("first", "least", "turn")


def is_route(setup, count, route):
    """Whether a value is a route of a line of a set-up over some of so many processors."""
    if not isinstance(route, tuple) or len(route) != 3:
        return False
    line, rule, processors = route
    if line not in setup or rule not in RULES or not isinstance(processors, tuple) or not processors:
        return False
    if not all([is_integer(processor, 0, count - 1) for processor in processors]):
        return False
    return len(set(processors)) == len(processors)


def spoilt_route(setup, count, routes):
    """The index of the first route that is spoilt, -1 for what is no tuple, or None."""
    if not isinstance(routes, tuple):
        return -1
    return spoilt_named(routes, len(setup), [is_route(setup, count, route) for route in routes])


class Router:
    """Where lines are placed next."""

    def __init__(self, setup, count, routes):
        everywhere = tuple(range(count))
        self._rules = {name: "first" for name in setup.order}
        self._stops = {name: everywhere for name in setup.order}
        for line, rule, processors in routes:
            self._rules[line] = rule
            self._stops[line] = processors
        # At which place of its route "turn" goes on for a line.
        self._turns = {name: 0 for name in setup.order}

    def copy_turns(self, other):
        """Let "turn" go on as in another one of the same routes."""
        self._turns = dict(other._turns)

    def allows(self, line, processor):
        """Whether a processor is on the route of a line."""
        return processor in self._stops[line]

    def choose(self, line, states, board):
        """The processor on which a line is placed by its rule, or None if none of its route is on."""
        rule = self._rules[line]
        if rule == "turn":
            return self._turned(line, states)
        running = [at for at in self._stops[line] if states[at] == "on"]
        if not running:
            return None
        if rule == "first":
            return running[0]
        loads = [board.load_of(at) for at in running]
        return running[loads.index(min(loads))]

    def _turned(self, line, states):
        stops = self._stops[line]
        turn = self._turns[line]
        for step in range(turn, turn + len(stops)):
            at = stops[step % len(stops)]
            if states[at] == "on":
                self._turns[line] = (step + 1) % len(stops)
                return at
        return None

    def turn_state(self):
        """Where "turn" goes on for each line."""
        return tuple([self._turns[line] for line in self._turns])
