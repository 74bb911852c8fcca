"""Weavings: what rings lead to if processors are as fast or as slow as they like."""

from callbells.checks import check_number, is_integer, spoilt_item
from callbells.errors import InvalidMove, InvalidRings, NotEdges, TooMany
from callbells.setups import Setup
from callbells.weave import Weave

MAX_PROCESSORS = 6
MAX_RINGS = 6
MOST_STATES = 3000

# The steps that may be needless.
GUARDS = ("mask", "unmask", "bar")


def weaving_ends(setup, count, rings):
    """The ascending list of the tuples (end, moves), with the shortest moves to each end."""
    check_weaving(setup, count, rings)
    weave = Weave(setup, count)
    start = weave.first_state(rings)
    seen = {start: True}
    found = [(start, [])]
    ends = {}
    while found:
        longer = []
        for state, moves in found:
            possible = weave.moves_from(state)
            if not possible:
                ends.setdefault(weave.end_of(state), moves)
            for move in possible:
                following = weave.state_behind(state, move)
                if following not in seen:
                    if len(seen) == MOST_STATES:
                        raise TooMany("too many states can be met")
                    seen[following] = True
                    longer.append((following, [*moves, move]))
        found = longer
    return sorted([(end, ends[end]) for end in ends])


def play_weaving(setup, count, rings, moves):
    """The end after a list of moves, or None if moves can still be done."""
    check_weaving(setup, count, rings)
    weave = Weave(setup, count)
    state = weave.first_state(rings)
    for at, move in enumerate(moves):
        if not is_one_of(move, weave.moves_from(state)):
            raise InvalidMove(at)
        state = weave.state_behind(state, move)
    return None if weave.moves_from(state) else weave.end_of(state)


def needless_steps(setup, count, rings):
    """The ascending list of (line, index) of the steps that can be left out, each by itself."""
    ends = ends_alone(setup, count, rings)
    needless = []
    for line in setup.lines:
        for at, step in enumerate(line[3]):
            is_tried = step[0] in GUARDS and len(line[3]) > 1
            if is_tried and ends_alone(without_step(setup, line, at), count, rings) == ends:
                needless.append((line[0], at))
    return sorted(needless)


def check_weaving(setup, count, rings):
    """Raise what is to be raised for a set-up, a number of processors and rings."""
    if not all([line[1] == "edge" for line in setup.lines]):
        raise NotEdges("all lines of a weaving are edges")
    check_number(count, 1, MAX_PROCESSORS)
    at = spoilt_item(rings, MAX_RINGS, lambda line: line in setup)
    if at is not None:
        raise InvalidRings(at)


def is_one_of(move, possible):
    """Whether a value is one of these moves; True is not the processor 1."""
    return move in possible and is_integer(move[-1], 0, MAX_PROCESSORS)


def ends_alone(setup, count, rings):
    """The ascending list of the ends, without the moves that lead there."""
    return [end for end, _ in weaving_ends(setup, count, rings)]


def without_step(setup, line, at):
    """The set-up in which the handler of a line is without one of its steps."""
    name, kind, rank, handler = line
    changed = (name, kind, rank, (*handler[:at], *handler[at + 1:]))
    return Setup(tuple([changed if row[0] == name else row for row in setup.lines]), setup.works)
