"""Point 13: the deeds of a house."""

import unittest

from callbells.errors import AlreadyOn, InvalidFlag, InvalidNumber, LastOne, NotAllowed
from callbells.errors import NotLevel, NotOn, NotWaiting, UnknownLine, UnknownProcessor
from callbells.houses import House

from helpers import ODD_VALUES, Case, edge, house_of, rung, told, usual

RUN = ("run", 1)


class DeedCase(Case):
    def refused(self, house, error, call, *args, **attributes):
        """The call raises this error and changes nothing."""
        with self.subTest(call=call, args=args):
            before, copy = repr(told(house)), house.copied()
            self.raises(error, call, *args, **attributes)
            self.same(repr(told(house)), before)
            self.assertTrue(house == copy)


class LineDeedsTest(DeedCase):
    def test_results(self):
        house = House(usual(), 2)
        self.same([house.ring("net"), house.ring("net"), house.ring("disk")], ["waits", "merged", "waits"])
        self.same([house.ring("heat"), house.ring("heat")], ["waits", "merged"])
        self.same([house.quiet("heat"), house.quiet("heat"), house.ring("heat")], [True, False, "waits"])
        self.same([house.mask("net"), house.mask("net"), house.unmask("net"), house.unmask("net")], [True, False, True, False])
        self.same([house.set_flag(7), house.set_flag(7), house.clear_flag(7), house.clear_flag(7)], [True, False, True, False])
        self.same([house.clear_flag(0), house.set_flag(0), house.flags_up, house.now, house.log], [False, True, [0], 0, []])

    def test_unknown_lines(self):
        house = House(usual(), 2)
        for line in ("fan", "flush", *ODD_VALUES):
            for call in (house.ring, house.quiet, house.mask, house.unmask):
                self.refused(house, UnknownLine, call, line, line=line)

    def test_edges_are_not_made_quiet(self):
        house = House(usual(), 2)
        house.ring("net")
        self.refused(house, NotLevel, house.quiet, "net", line="net")
        self.refused(house, NotLevel, house.quiet, "disk", line="disk")

    def test_invalid_flags(self):
        house = House(usual(), 2)
        for flag in (8, *ODD_VALUES):
            self.refused(house, InvalidFlag, house.set_flag, flag)
            self.refused(house, InvalidFlag, house.clear_flag, flag)

    def test_a_ring_while_it_is_under_way(self):
        house = rung(House(usual(), 2), "net")
        house.tick()
        self.same([house.ring("net"), house.ring("net")], ["waits", "merged"])


class TickTest(DeedCase):
    def test_events_of_these_ticks(self):
        house = House(usual(), 2)
        rung(house, "disk")
        self.same(house.move("disk", 1), None)
        self.same(house.log, [("place", 0, "disk", 1)])
        self.same(house.tick(), [("begin", 0, "disk", 1)])
        rung(house, "net")
        self.same(house.ticks(2), [("place", 1, "net", 0), ("begin", 1, "net", 0), ("end", 1, "disk", 1)])
        self.same(house.log, [("place", 0, "disk", 1), ("begin", 0, "disk", 1), ("place", 1, "net", 0), ("begin", 1, "net", 0), ("end", 1, "disk", 1)])
        self.same([house.ticks(0), house.now], [[], 3])

    def test_a_number_of_ticks_against_single_ticks(self):
        for count in (1, 2, 5, 17):
            one, other = [rung(House(usual(), 2), "net", "disk", "heat") for _ in range(2)]
            events = [event for _ in range(count) for event in other.tick()]
            self.same([one.ticks(count), one == other, told(one)], [events, True, told(other)])

    def test_many_ticks(self):
        house = House(usual(), 6)
        self.same([house.ticks(10000), house.now], [[], 10000])

    def test_invalid_numbers(self):
        house = rung(House(usual(), 2), "net")
        for count in (-1, 10001, *ODD_VALUES):
            self.refused(house, InvalidNumber, house.ticks, count)


class LeaveTest(DeedCase):
    def test_the_lines_that_are_placed_there(self):
        lines = [edge("top", 9, ("run", 99)), edge("b", 3, RUN), edge("a", 3, RUN), edge("c", 4, RUN), edge("d", 2, RUN)]
        house = house_of(2, *lines)
        rung(house, "top", "a", "b", "c").tick()
        house.mask("b")
        rung(house, "d")
        self.same([house.leave(0), house[0]], [["c", "a", "b"], ("leaving", 0, ("top",), ())])
        self.same([house(line)[3] for line in "abcd"], [None, None, None, None])
        self.same(house.tick(), [("place", 1, "c", 1), ("place", 1, "a", 1), ("place", 1, "d", 1), ("begin", 1, "c", 1), ("end", 1, "c", 1)])

    def test_without_lines(self):
        house = House(usual(), 2)
        self.same([house.leave(1), house[1], len(house)], [[], ("leaving", 0, (), ()), 1])
        self.same([house.tick(), house[1], house.log], [[("off", 0, 1)], ("off", 0, (), ()), [("off", 0, 1)]])

    def test_at_the_end_of_the_first_tick_without_calls(self):
        house = rung(House(usual(), 2), "net", "disk")
        house.tick()
        house.leave(0)
        events = [("place", 1, "net", 1), ("begin", 1, "net", 1), ("end", 1, "disk", 0), ("off", 1, 0)]
        self.same([house.tick(), house[0][0]], [events, "off"])

    def test_unknown_processors(self):
        house = House(usual(), 2)
        for processor in (2, "0", (0,), *ODD_VALUES):
            self.refused(house, UnknownProcessor, house.leave, processor, processor=processor)
            self.refused(house, UnknownProcessor, house.come, processor, processor=processor)

    def test_not_on(self):
        house = House(usual(), 2)
        house.leave(0)
        self.refused(house, NotOn, house.leave, 0)
        house.tick()
        self.refused(house, NotOn, house.leave, 0)

    def test_the_last_one(self):
        self.refused(House(usual(), 1), LastOne, House(usual(), 1).leave, 0)
        house = House(usual(), 3)
        house.leave(2)
        house.leave(0)
        self.refused(house, LastOne, house.leave, 1)
        house.tick()
        self.refused(house, LastOne, house.leave, 1)
        # The one that is asked for is not on, which is told first.
        self.refused(house, NotOn, house.leave, 0)
        house.come(0)
        self.same(house.leave(1), [])


class ComeTest(DeedCase):
    def test_whether_it_was_leaving(self):
        house = rung(House(usual(), 2), "net")
        house.tick()
        house.leave(0)
        self.same([house.come(0), house[0], house.log[2:]], [True, ("on", 0, ("net",), ()), []])
        house.leave(1)
        house.tick()
        self.same([house.come(1), house[1], len(house)], [False, ("on", 0, (), ()), 2])

    def test_already_on(self):
        house = House(usual(), 2)
        self.refused(house, AlreadyOn, house.come, 0)
        house.leave(1)
        house.come(1)
        self.refused(house, AlreadyOn, house.come, 1)

    def test_lines_are_placed_again_by_their_rule(self):
        house = house_of(2, edge("top", 9, ("run", 9)), edge("a", 3, RUN), routes=(("a", "first", (1, 0)), ("top", "first", (1,))))
        rung(house, "top", "a").tick()
        self.same([house.leave(1), house.come(1)], [["a"], True])
        self.same(house.tick(), [("place", 1, "a", 1)])


class MoveTest(DeedCase):
    def test_results_and_events(self):
        house = rung(House(usual(), 3), "net")
        self.same([house.move("net", 2), house.move("net", 1), house.move("net", 1)], [None, 2, 1])
        self.same(house.log, [("place", 0, "net", 2), ("place", 0, "net", 1), ("place", 0, "net", 1)])
        self.same([house("net")[3], house.fate(0)], [1, ("waits", 1)])
        self.same(house.tick(), [("begin", 0, "net", 1)])

    def test_the_number_of_the_next_tick(self):
        house = House(usual(), 2)
        house.ticks(7)
        rung(house, "disk").move("disk", 1)
        self.same(house.log, [("place", 7, "disk", 1)])

    def test_masked_lines(self):
        house = rung(House(usual(), 2), "net")
        house.mask("net")
        self.same([house.move("net", 1), house("net"), house.tick()], [None, (False, False, True, 1, None, None), []])
        house.unmask("net")
        self.same(house.tick(), [("begin", 1, "net", 1)])

    def test_levels(self):
        house = rung(House(usual(), 2), "heat")
        self.same([house.move("heat", 1), house.tick()], [None, [("begin", 0, "heat", 1), ("end", 0, "heat", 1)]])

    def test_unknown_lines_and_processors(self):
        house = rung(House(usual(), 2), "net")
        for line in ("fan", *ODD_VALUES):
            self.refused(house, UnknownLine, house.move, line, 5, line=line)
        for processor in (2, "0", *ODD_VALUES):
            self.refused(house, UnknownProcessor, house.move, "net", processor, processor=processor)
            self.refused(house, UnknownProcessor, house.move, "disk", processor, processor=processor)

    def test_lines_that_do_not_wait(self):
        house = house_of(2, edge("a", 5, ("run", 2)), routes=(("a", "first", (0,)),))
        # That it is not allowed either is told later.
        self.refused(house, NotWaiting, house.move, "a", 1)
        rung(house, "a").tick()
        self.refused(house, NotWaiting, house.move, "a", 0)
        # It waits, but is under way.
        rung(house, "a")
        self.refused(house, NotWaiting, house.move, "a", 0)
        house.tick()
        self.same(house.move("a", 0), None)

    def test_levels_that_do_not_wait(self):
        house = House(usual(), 2)
        self.refused(house, NotWaiting, house.move, "heat", 0)
        rung(house, "heat")
        house.quiet("heat")
        self.refused(house, NotWaiting, house.move, "heat", 0)

    def test_processors_that_are_not_on_the_route(self):
        house = rung(House(usual(), 3, routes=(("net", "turn", (2, 0)),)), "net")
        self.refused(house, NotAllowed, house.move, "net", 1)
        self.same([house.move("net", 0), house.move("net", 2)], [None, 0])

    def test_processors_that_are_not_on(self):
        house = rung(House(usual(), 3), "net")
        house.leave(1)
        self.refused(house, NotAllowed, house.move, "net", 1)
        house.mask("net")
        house.tick()
        self.refused(house, NotAllowed, house.move, "net", 1)
        house.come(1)
        self.same(house.move("net", 1), None)


if __name__ == "__main__":
    unittest.main()
