"""Point 19: houses in which devices ring by clocks."""

import unittest

from callbells.clockwork import Clockwork
from callbells.errors import InvalidClock, InvalidNumber, TooLong, UnknownLine, UnknownWork
from callbells.houses import House

from helpers import ODD_VALUES, Case, Dice, edge, house_of, level, rung, told, until_next, usual
from slowhouse import SlowHouse
from thrown import thrown_parts

RUN = ("run", 1)
FAR = 10 ** 18


def ring_clocks(house, clocks):
    for clock in clocks:
        if until_next(clock, house.now) == 0:
            house.ring(clock[0])


def ahead(slow, clocks):
    """All that the document compares, of a house that is played slowly."""
    lines = [(name in slow.masked, name in slow.high, slow.waits(name), slow.places.get(name)) for name in slow.order]
    calls = [[(call["line"], call["step"], call["ticks"]) for call in calls] for calls in slow.calls]
    queues = [[row[:2] for row in slow.sorted_works(p)] for p in range(slow.count)]
    turns = []
    for name in slow.order:
        rule, route = slow.routes[name]
        if rule == "turn":
            turns.append((slow.last_turns.get(name, -1) + 1) % len(route))
    storms = []
    for name, (_, window, _) in slow.storms.items():
        begins = [slow.now - event[1] for event in slow.log if event[0] == "begin" and event[2] == name]
        held = slow.held(name)
        storms.append(([ago for ago in begins if ago < window], 0 if held is None else held - slow.now + 1))
    rings = [until_next(clock, slow.now) for clock in clocks]
    return repr((lines, sorted(slow.flags), slow.bars, calls, queues, turns, storms, rings))


def first_repetition(setup, count, routes, storms, clocks, most):
    """The repetition, by comparing everything ahead of each tick, or None if it is too long."""
    slow = SlowHouse(setup, count, routes, storms)
    seen = []
    while len(seen) <= most:
        now = ahead(slow, clocks)
        if now in seen:
            return seen.index(now), len(seen) - seen.index(now)
        seen.append(now)
        ring_clocks(slow, clocks)
        slow.tick()
    return None


def state_of(house):
    """What `state_after` tells, of a house."""
    names = sorted([line[:3] for line in house.setup.lines], key=lambda line: (-line[2], line[0]))
    return (tuple([house[at] for at in range(house.processor_count)]), tuple([house(line[0])[:5] for line in names]))


def thrown_clocks(dice, setup):
    edges = [line[0] for line in setup.lines if line[1] == "edge"]
    if not edges:
        return ()
    return tuple([(dice.one_of(edges), dice.below(12), 1 + dice.below(9)) for _ in range(1 + dice.below(3))])


class PlayedTest(Case):
    def check(self, house, clocks, ticks):
        """Tick by tick against a house that is rung by deeds at the same ticks."""
        work = Clockwork(house, clocks)
        play = House(house.setup, house.processor_count, routes=house.routes, storms=house.storms)
        for tick in range(ticks):
            self.same([work.begun_by(line[0], tick) for line in house.setup.lines], list(play.begin_counts.values()))
            self.same([work.done_by(row[0], tick) for row in house.setup.works], list(play.done_counts.values()))
            self.same(work.state_after(tick), state_of(play))
            ring_clocks(play, clocks)
            play.tick()
        return work

    def test_thrown_houses(self):
        dice = Dice(99)
        firsts, tried = [], 0
        while tried < 60:
            setup, count, routes, storms = thrown_parts(dice)
            clocks = thrown_clocks(dice, setup)
            expected = first_repetition(setup, count, routes, storms, clocks, 300)
            if expected is not None:
                tried += 1
                house = House(setup, count, routes=routes, storms=storms)
                work = self.check(house, clocks, sum(expected) + expected[1] + 5)
                self.same(work.repetition(), expected)
                firsts.append(expected[0])
                self.far_ahead(work, setup, expected)
        self.assertIn(0, firsts)
        self.assertGreater(max(firsts), 10)

    def far_ahead(self, work, setup, repetition):
        """Far ahead, all is as it is some repetitions earlier."""
        first, length = repetition
        turns = (FAR - first - length) // length
        for tick in (first, first + length - 1):
            far = tick + turns * length
            self.same(work.state_after(far), work.state_after(tick))
            for line in setup.lines:
                once = work.begun_by(line[0], tick + length) - work.begun_by(line[0], tick)
                self.same(work.begun_by(line[0], far), work.begun_by(line[0], tick) + turns * once)
            for row in setup.works:
                once = work.done_by(row[0], tick + length) - work.done_by(row[0], tick)
                self.same(work.done_by(row[0], far), work.done_by(row[0], tick) + turns * once)

    def test_the_usual_set_up(self):
        house = House(usual(), 2, routes=(("net", "turn", (1, 0)), ("disk", "least", (0, 1))), storms=(("disk", 2, 9, 4),))
        work = self.check(house, (("net", 3, 7), ("disk", 0, 3), ("disk", 1, 4)), 300)
        self.same(work.begun_by("heat", FAR), 0)

    def test_works_far_ahead(self):
        work = Clockwork(House(usual(), 1), (("net", 0, 10),))
        self.same([work.begun_by("net", FAR), work.done_by("flush", FAR), work.done_by("flush", 7), work.done_by("flush", 6)], [FAR // 10, FAR // 10, 1, 0])
        self.same([work.state_after(FAR)[0], work.state_after(FAR - 5)[0]], [(("on", 0, (), ()),), (("on", 0, (), ("flush",)),)])

    def test_no_clocks(self):
        work = Clockwork(House(usual(), 2), ())
        self.same([work.repetition(), work.begun_by("net", FAR), work.done_by("flush", FAR)], [(0, 1), 0, 0])
        self.same(work.state_after(FAR), state_of(House(usual(), 2)))

    def test_clocks_that_ring_at_one_tick(self):
        house = house_of(1, edge("a", 5, RUN), edge("b", 6, RUN))
        clocks = (("a", 0, 4), ("a", 4, 4), ("b", 2, 6), ("a", 0, 8), ("b", 8, 500))
        self.check(house, clocks, 60)
        work = Clockwork(house, clocks[:4])
        self.same([work.begun_by("a", 24), work.begun_by("b", 24), work.repetition()[1]], [6, 4, 24])

    def test_the_first_ring_and_the_greatest_numbers(self):
        work = Clockwork(house_of(1, edge("a", 5, RUN)), (("a", 500, 500),))
        self.same([work.begun_by("a", tick) for tick in (500, 501, 1000, 1001)], [0, 1, 1, 2])
        self.same([work.repetition(), work.begun_by("a", FAR)], [(1, 500), FAR // 500 - 1])


class RepetitionTest(Case):
    """Each kind of thing that makes a state another one."""

    def pair(self, *lines, clocks, works=(), **parts):
        house = house_of(2, *lines, works=works, **parts)
        expected = first_repetition(house.setup, 2, house.routes, house.storms, clocks, 500)
        self.same(Clockwork(house, clocks).repetition(), expected)
        return expected

    def test_clocks(self):
        self.same(self.pair(edge("a", 5, RUN), clocks=(("a", 0, 6), ("a", 0, 4))), (0, 12))
        self.same(self.pair(edge("a", 5, RUN), clocks=(("a", 9, 5),)), (5, 5))
        self.same(self.pair(edge("a", 5, RUN), clocks=(("a", 4, 5),)), (0, 5))

    def test_turns(self):
        self.same(self.pair(edge("a", 5, RUN), clocks=(("a", 0, 5),), routes=(("a", "turn", (0, 1)),)), (0, 10))
        self.same(self.pair(edge("a", 5, RUN), clocks=(("a", 0, 5),), routes=(("a", "turn", (1,)),)), (0, 5))
        self.same(self.pair(edge("a", 5, RUN), clocks=(("a", 0, 5),), routes=(("a", "least", (1, 0)),)), (0, 5))

    def test_storms(self):
        # Behind the first begin, the storm has counted it all the time.
        self.same(self.pair(edge("a", 5, RUN), clocks=(("a", 0, 5),), storms=(("a", 9, 6, 1),)), (1, 5))
        self.same(self.pair(edge("a", 5, RUN), clocks=(("a", 0, 5),), storms=(("a", 9, 5, 1),)), (0, 5))
        self.same(self.pair(edge("a", 5, RUN), clocks=(("a", 0, 5),), storms=(("a", 9, 11, 1),)), (6, 5))
        # It begins in 0 and 5, is held back up to 12, begins in 13 and 15, is held back up to 22.
        self.same(self.pair(edge("a", 5, RUN), clocks=(("a", 0, 5),), storms=(("a", 1, 6, 7),)), (9, 10))

    def test_lines_that_are_held_back(self):
        # In the ticks of the hold, nothing else tells that the line is held.
        self.same(self.pair(edge("a", 5, RUN), clocks=(("a", 0, 8), ("a", 1, 8)), storms=(("a", 1, 2, 7),)), (0, 16))
        self.same(self.pair(edge("a", 5, RUN), clocks=(("a", 0, 8), ("a", 1, 8)), storms=(("a", 1, 2, 6),)), (0, 8))

    def test_flags_and_masks(self):
        lines = (edge("a", 5, ("set", 3)), edge("b", 5, ("mask", "a"), ("clear", 3)), edge("c", 5, ("unmask", "a")))
        self.same(self.pair(lines[0], clocks=(("a", 3, 5),)), (4, 5))
        self.same(self.pair(*lines[:2], clocks=(("a", 3, 5), ("b", 7, 5))), (9, 5))
        self.same(self.pair(*lines, clocks=(("a", 0, 2), ("b", 1, 6), ("c", 4, 6))), (1, 6))

    def test_levels(self):
        self.same(self.pair(edge("a", 5, ("ring", "b")), level("b", 4, RUN), clocks=(("a", 2, 5),)), (4, 5))

    def test_works(self):
        lines = (edge("a", 5, ("later", "x")), edge("b", 5, ("later", "y")))
        works = (("x", 1, 3), ("y", 2, 2))
        self.same(self.pair(*lines, clocks=(("a", 0, 4), ("b", 2, 8)), works=works)[1], 8)
        self.same(self.pair(*lines, clocks=(("a", 0, 2), ("b", 1, 3)), works=works)[1] > 0, True)

    def test_calls_and_bars(self):
        lines = (edge("a", 2, ("bar", 5), ("run", 4), ("bar", 0), ("run", 3)), edge("b", 5, ("run", 2)))
        self.same(self.pair(*lines, clocks=(("a", 0, 15), ("b", 1, 5))), (0, 15))
        self.same(self.pair(*lines, clocks=(("a", 0, 10), ("b", 1, 4)))[1], 140)

    def test_an_await_for_ever(self):
        self.same(self.pair(edge("a", 5, ("await", 0)), clocks=(("a", 0, 7),)), (8, 7))


class TooLongTest(Case):
    def house(self):
        return house_of(1, edge("a", 5, RUN), edge("b", 6, RUN))

    def test_the_edge(self):
        work = Clockwork(self.house(), (("a", 0, 500), ("b", 0, 32)))
        self.same([work.repetition(), work.begun_by("a", FAR), work.begun_by("b", FAR)], [(0, 4000), FAR // 500, FAR // 32])
        self.same(Clockwork(self.house(), (("a", 500, 500), ("b", 1, 28))).repetition(), (1, 3500))
        self.too_long((("a", 500, 500), ("b", 1, 32)))
        self.same(Clockwork(self.house(), (("a", 500, 2),)).repetition(), (499, 2))

    def too_long(self, clocks):
        work = Clockwork(self.house(), clocks)
        for _ in range(2):
            self.raises(TooLong, work.repetition)
            self.raises(TooLong, work.begun_by, "a", 0)
            self.raises(TooLong, work.state_after, 3)

    def test_far_too_long(self):
        self.too_long((("a", 0, 499), ("b", 0, 500)))

    def test_it_comes_last(self):
        house = House(usual(), 1)
        work = Clockwork(house, (("net", 0, 499), ("disk", 0, 500)))
        self.raises(TooLong, work.done_by, "flush", 5)
        for value in (-1, FAR + 1):
            self.raises(InvalidNumber, work.begun_by, "net", value)
            self.raises(InvalidNumber, work.done_by, "flush", value)
            self.raises(InvalidNumber, work.state_after, value)
        self.raises(UnknownLine, work.begun_by, "fan", -1, line="fan")
        self.raises(UnknownWork, work.done_by, "net", -1, work="net")


class ErrorsTest(Case):
    def wrong(self, index, clocks):
        with self.subTest(clocks=clocks):
            self.raises(InvalidClock, Clockwork, House(usual(), 1), clocks, index=index)

    def test_forms(self):
        good = ("net", 0, 5)
        for value in (["net", 0, 5], ("net", 0), ("net", 0, 5, 5), ("net", (0, 5)), *ODD_VALUES):
            self.wrong(0, (value,))
            self.wrong(1, (good, value, value))

    def test_lines(self):
        for line in ("heat", "fan", "flush", "Net", *ODD_VALUES):
            self.wrong(1, (("net", 0, 5), (line, 0, 5)))

    def test_numbers(self):
        for first in (-1, 501, "0", *ODD_VALUES):
            self.wrong(0, (("net", first, 5),))
        for period in (0, 501, "5", *ODD_VALUES):
            self.wrong(0, (("net", 0, period),))

    def test_the_seventh(self):
        self.wrong(6, (("net", 0, 5),) * 7)
        self.wrong(5, (("net", 0, 5),) * 5 + (("heat", 0, 5), ("net", 0, 5)))
        self.same(Clockwork(House(usual(), 1), (("disk", 0, 5),) * 6).repetition(), (0, 5))

    def test_no_tuples(self):
        for value in (None, True, 5, "net", [], [("net", 0, 5)], {}):
            self.wrong(0, value)

    def test_unknown_lines_and_works(self):
        work = Clockwork(House(usual(), 1), (("net", 0, 10),))
        for line in ("fan", "flush", *ODD_VALUES):
            self.raises(UnknownLine, work.begun_by, line, -1, line=line)
        for name in ("net", "fan", *ODD_VALUES):
            self.raises(UnknownWork, work.done_by, name, -1, work=name)

    def test_invalid_numbers(self):
        work = Clockwork(House(usual(), 1), (("net", 0, 10),))
        for tick in (FAR + 1, -1, *ODD_VALUES):
            self.raises(InvalidNumber, work.begun_by, "net", tick)
            self.raises(InvalidNumber, work.done_by, "flush", tick)
            self.raises(InvalidNumber, work.state_after, tick)


class HouseTest(Case):
    def test_a_house_that_has_gone_on_is_taken_as_at_first(self):
        house = House(usual(), 2, routes=(("net", "turn", (0, 1)),))
        rung(house, "net").ticks(2)
        house.leave(0)
        house.mask("disk")
        before = told(house)
        clocks = (("net", 1, 6), ("disk", 0, 4))
        work, fresh = Clockwork(house, clocks), Clockwork(House(usual(), 2, routes=(("net", "turn", (0, 1)),)), clocks)
        self.same([work.repetition(), work.state_after(50)], [fresh.repetition(), fresh.state_after(50)])
        self.same(told(house), before)

    def test_a_house_that_goes_on_later(self):
        house = House(usual(), 1)
        work = Clockwork(house, (("net", 0, 10),))
        house.mask("net")
        house.ticks(5)
        self.same([work.repetition(), work.begun_by("net", 25)], [(0, 10), 3])

    def test_asked_again(self):
        work = Clockwork(House(usual(), 1), (("net", 0, 10),))
        asked = [[work.repetition(), work.begun_by("net", 25), work.done_by("flush", 25), work.state_after(3)] for _ in range(2)]
        self.same(asked[0], asked[1])


if __name__ == "__main__":
    unittest.main()
