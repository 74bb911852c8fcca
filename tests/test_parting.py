"""Point 18, second half: the first rings that tell two houses apart."""

import unittest

from callbells.errors import InvalidNumber, OtherLines
from callbells.houses import House
from callbells.parting import first_parting
from callbells.setups import Setup

from helpers import ODD_VALUES, Case, Dice, edge, house_of, level, rung, told, usual
from thrown import thrown_parts, thrown_step

RUN = ("run", 1)


def begins(house, rings, ticks):
    """The begins of a house of its own with rings (tick, line)."""
    play = House(house.setup, house.processor_count, routes=house.routes, storms=house.storms)
    for tick in range(ticks):
        for ring in rings:
            if ring[0] == tick:
                play.ring(ring[1])
        play.tick()
    return [event for event in play.log if event[0] == "begin"]


def all_rings(house, many, ticks):
    """All tuples of rings, the shortest first, then in tuple order."""
    names = sorted(line[0] for line in house.setup.lines)
    single = [(tick, name) for tick in range(ticks) for name in names]
    rows = [()]
    if many > 0:
        rows += [(ring,) for ring in single]
    if many > 1:
        rows += [(one, other) for one in single for other in single if one[0] <= other[0]]
    return sorted(rows, key=lambda row: (len(row), row))


def searched(house, other, many, ticks):
    for rings in all_rings(house, many, ticks):
        if begins(house, rings, ticks) != begins(other, rings, ticks):
            return rings
    return None


def changed(dice, setup):
    """The set-up with another rank or step of a line."""
    lines = list(setup.lines)
    at = dice.below(len(lines))
    name, kind, rank, handler = lines[at]
    if dice.below(2):
        rank = 1 + dice.below(9)
    else:
        levels = [line[0] for line in lines if line[1] == "level"]
        step = thrown_step(dice, [line[0] for line in lines], levels, [work[0] for work in setup.works])
        handler = (*handler[:-1], step)
    lines[at] = (name, kind, rank, handler)
    if dice.below(2):
        lines.reverse()
    return Setup(tuple(lines), setup.works)


class SearchTest(Case):
    def test_against_all_rings(self):
        dice = Dice(41)
        lengths = []
        for _ in range(60):
            setup, count, routes, storms = thrown_parts(dice)
            house = House(setup, count, routes=routes, storms=storms)
            if dice.below(3):
                other = House(changed(dice, setup), count, routes=routes, storms=storms)
            else:
                other = House(setup, count, routes=routes[1:], storms=storms[1:])
            for many, ticks in ((0, 3), (1, 5), (2, 4)):
                found = first_parting(house, other, many, ticks)
                self.same(found, searched(house, other, many, ticks))
                lengths.append(None if found is None else len(found))
        self.assertEqual(set(lengths), {None, 1, 2})
        self.assertGreater(lengths.count(2), 3)

    def test_tuple_order(self):
        lines = (edge("b", 5, RUN), edge("a", 6, RUN))
        # Any ring tells them apart, but for the names and ticks.
        house, other = house_of(2, *lines), house_of(2, *lines, routes=tuple([(name, "first", (1,)) for name in "ab"]))
        self.same(first_parting(house, other, 2, 3), ((0, "a"),))

    def test_the_shortest_first(self):
        lines = (edge("a", 5, RUN), edge("b", 6, RUN))
        house = house_of(2, *lines)
        other = house_of(2, *lines, routes=(("b", "turn", (0, 1)),))
        # One ring of b is not enough, and so is one of a.
        self.same([first_parting(house, other, 1, 9), first_parting(house, other, 2, 9)], [None, ((0, "b"), (1, "b"))])
        other = house_of(2, *lines, routes=(("b", "first", (1,)),))
        self.same(first_parting(house, other, 2, 9), ((0, "b"),))

    def test_levels_ring_too(self):
        handler = (RUN, ("quiet", "a"))
        house, other = house_of(1, level("a", 5, *handler)), house_of(1, level("a", 5, RUN))
        self.same([first_parting(house, other, 1, 1), first_parting(house, other, 1, 2)], [None, ((0, "a"),)])

    def test_processors_are_compared(self):
        lines = (edge("a", 5, RUN),)
        house, other = house_of(2, *lines), house_of(2, *lines, routes=(("a", "first", (1, 0)),))
        self.same(first_parting(house, other, 1, 1), ((0, "a"),))

    def test_only_begins_are_compared(self):
        # The call of the one takes longer, and the line is not rung again.
        house, other = house_of(1, edge("a", 5, RUN)), house_of(1, edge("a", 5, ("run", 9)))
        self.same([first_parting(house, other, 1, 12), first_parting(house, other, 2, 12)], [None, ((0, "a"), (1, "a"))])

    def test_the_number_of_ticks(self):
        house = house_of(1, edge("a", 5, ("run", 5), ("ring", "b")), edge("b", 5, RUN))
        other = house_of(1, edge("a", 5, ("run", 5)), edge("b", 5, RUN))
        self.same([first_parting(house, other, 2, ticks) for ticks in (1, 5, 6, 12)], [None, None, ((0, "a"),), ((0, "a"),)])

    def test_the_order_of_lines_may_differ(self):
        lines = (edge("a", 5, RUN), edge("b", 6, RUN))
        house, other = house_of(1, *lines), house_of(1, *reversed(lines))
        self.same(first_parting(house, other, 2, 4), None)

    def test_houses_are_taken_as_at_first(self):
        house, other = House(usual(), 2), House(usual(), 2)
        rung(house, "net").ticks(2)
        house.leave(1)
        other.mask("disk")
        before = (told(house), told(other))
        self.same(first_parting(house, other, 2, 4), None)
        self.same((told(house), told(other)), before)
        self.same(first_parting(house, House(usual().with_rank("net", 8), 2), 2, 4), ((0, "disk"), (0, "net")))

    def test_no_rings(self):
        self.same(first_parting(House(usual(), 1), House(usual().with_rank("net", 8), 1), 0, 12), None)

    def test_the_greatest_numbers(self):
        self.same(first_parting(House(usual(), 2), House(usual(), 2), 2, 12), None)


class ErrorsTest(Case):
    def test_other_lines(self):
        house = House(usual(), 2)
        for other in (House(usual() - "heat", 2), house_of(2, edge("net", 5, RUN), edge("disk", 5, RUN), edge("heater", 5, RUN))):
            self.raises(OtherLines, first_parting, house, other, 1, 1)
            self.raises(OtherLines, first_parting, other, house, 1, 1)
            self.raises(OtherLines, first_parting, house, other, 3, 0)
            self.raises(OtherLines, first_parting, house, other, None, None)

    def test_numbers(self):
        house, other = House(usual(), 2), House(usual(), 1)
        for value in (3, *ODD_VALUES):
            self.raises(InvalidNumber, first_parting, house, other, value, 5)
        for value in (0, 13, *ODD_VALUES):
            self.raises(InvalidNumber, first_parting, house, other, 1, value)


if __name__ == "__main__":
    unittest.main()
