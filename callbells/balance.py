"""Balance: the fewest moves of loads that keep processors evenly loaded."""

from callbells.checks import check_number, is_integer
from callbells.errors import InvalidMove, InvalidNumber

MAX_LOADS = 7
MAX_LOAD = 1000
MAX_PROCESSORS = 4


def fewest_moves(loads, places, count, bound):
    """The shortest list of moves (load's index, processor) that keeps a bound, or None."""
    check_loads(loads, places, count)
    check_number(bound, 0, MAX_LOADS * MAX_LOAD)
    for length in range(len(loads) + 1):
        for moves in move_lists(places, count, length):
            if difference(loads, moved(places, moves), count) <= bound:
                return moves
    return None


def least_spread(loads, places, count, most):
    """The least difference of the sums of processors after at most so many moves."""
    check_loads(loads, places, count)
    check_number(most, 0, MAX_LOADS)
    spreads = []
    for length in range(min(most, len(loads)) + 1):
        for moves in move_lists(places, count, length):
            spreads.append(difference(loads, moved(places, moves), count))
    return min(spreads)


def judge_moves(loads, places, count, moves):
    """The difference of the sums of processors after a list of moves."""
    check_loads(loads, places, count)
    indexes = []
    for at, move in enumerate(moves):
        if not is_move(places, count, move) or move[0] in indexes:
            raise InvalidMove(at)
        indexes.append(move[0])
    return difference(loads, moved(places, moves), count)


def check_loads(loads, places, count):
    """Raise InvalidNumber for what are no loads, or no places of them on so many processors."""
    check_number(count, 1, MAX_PROCESSORS)
    if not are_integers(loads, MAX_LOAD) or not 1 <= len(loads) <= MAX_LOADS:
        raise InvalidNumber(f"loads are 1 to {MAX_LOADS} integers from 0 to {MAX_LOAD}")
    if not are_integers(places, count - 1) or len(places) != len(loads):
        raise InvalidNumber("the places of loads are processors, as many as there are loads")


def are_integers(values, high):
    """Whether a value is a tuple of integers from 0 to a highest one."""
    return isinstance(values, tuple) and all([is_integer(value, 0, high) for value in values])


def is_move(places, count, move):
    """Whether a value is a move of a load to another processor than it is on."""
    if not isinstance(move, tuple) or len(move) != 2:
        return False
    at, processor = move
    if not is_integer(at, 0, len(places) - 1) or not is_integer(processor, 0, count - 1):
        return False
    return places[at] != processor


def move_lists(places, count, length, start=0):
    """All lists of so many moves of loads from an index on, each of another load, in list order."""
    if length == 0:
        return [[]]
    lists = []
    for at in range(start, len(places)):
        behind = move_lists(places, count, length - 1, at + 1)
        for processor in range(count):
            if processor != places[at]:
                lists.extend([[(at, processor), *moves] for moves in behind])
    return lists


def moved(places, moves):
    """The places of all loads after moves."""
    changed = list(places)
    for at, processor in moves:
        changed[at] = processor
    return changed


def difference(loads, places, count):
    """The greatest sum of loads on a processor, less the least one."""
    sums = [0] * count
    for load, place in zip(loads, places):
        sums[place] += load
    return max(sums) - min(sums)
