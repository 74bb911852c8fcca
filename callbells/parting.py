"""The first rings with which the begins of two houses are not the same."""

from callbells.checks import check_number
from callbells.errors import OtherLines

MAX_RINGS = 2
MAX_TICKS = 12


def first_parting(house, other, rings, ticks):
    """The first tuple of rings (tick, line), of the shortest ones, that tells houses apart, or None."""
    names = sorted([line[0] for line in house.setup.lines])
    if names != sorted([line[0] for line in other.setup.lines]):
        raise OtherLines("the names of the lines are not the same")
    check_number(rings, 0, MAX_RINGS)
    check_number(ticks, 1, MAX_TICKS)
    for count in range(rings + 1):
        found = parting_behind((house.as_at_first(), other.as_at_first()), names, count, ticks)
        if found is not None:
            return found
    return None


def parting_behind(pair, names, count, ticks):
    """The first tuple of so many rings, from now on, with which a pair of houses parts, or None."""
    if count == 0:
        begins = [begins_by(house, ticks) for house in pair]
        return () if begins[0] != begins[1] else None
    for tick in range(pair[0].now, ticks):
        for line in names:
            copies = (pair[0].copied(), pair[1].copied())
            for house in copies:
                house.ring(line)
            found = parting_behind(copies, names, count - 1, ticks)
            if found is not None:
                return ((tick, line), *found)
        for house in pair:
            house.tick()
    return None


def begins_by(house, ticks):
    """The begins of a house that goes on up to a number of ticks."""
    house.ticks(ticks - house.now)
    return [event for event in house.log if event[0] == "begin"]
