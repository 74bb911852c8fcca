"""Point 11: placing, taking and going on."""

import unittest

from callbells.houses import House

from helpers import Case, edge, house_of, level, rung, usual

RUN = ("run", 1)


def short(*names, rank=5):
    """Edges of one rank that run for a tick."""
    return tuple([edge(name, rank, RUN) for name in names])


def long(*names, rank=5):
    """Edges of one rank that run for many ticks."""
    return tuple([edge(name, rank, ("run", 99)) for name in names])


def placed(events):
    """The lines and processors of the places among events."""
    return [event[2:] for event in events if event[0] == "place"]


class FirstTest(Case):
    def test_the_first_one_of_the_route(self):
        house = house_of(3, *short("a"), routes=(("a", "first", (2, 0)),))
        for _ in range(3):
            self.same(placed(rung(house, "a").tick()), [("a", 2)])

    def test_the_first_one_that_is_on(self):
        house = house_of(3, *short("a"), routes=(("a", "first", (2, 0)),))
        house.leave(2)
        self.same(placed(rung(house, "a").tick()), [("a", 0)])
        self.same([house[2][0], placed(rung(house, "a").tick())], ["off", [("a", 0)]])
        house.come(2)
        self.same(placed(rung(house, "a").tick()), [("a", 2)])

    def test_all_processors_without_a_route(self):
        house = house_of(3, *short("a"))
        self.same(placed(rung(house, "a").tick()), [("a", 0)])
        house.leave(0)
        self.same(placed(rung(house, "a").tick()), [("a", 1)])
        house.leave(1)
        self.same(placed(rung(house, "a").tick()), [("a", 2)])

    def test_however_loaded_it_is(self):
        house = rung(house_of(2, *long("a", "b", "c")), "a", "b", "c")
        self.same(placed(house.tick()), [("a", 0), ("b", 0), ("c", 0)])


class LeastTest(Case):
    def least(self, count, *names, route=(0, 1, 2)):
        return house_of(count, *long(*names), routes=tuple([(name, "least", route) for name in names]))

    def test_of_several_the_first_one_in_the_route(self):
        house = rung(self.least(3, "a", "b", "c", "d", "e", route=(1, 2, 0)), "a", "b", "c", "d", "e")
        self.same(placed(house.tick()), [("a", 1), ("b", 2), ("c", 0), ("d", 1), ("e", 2)])

    def test_calls_and_placed_lines_are_the_load(self):
        house = self.least(2, "a", "b", "c", "d", route=(0, 1))
        rung(house, "a").tick()
        self.same(house[0][2], ("a",))
        # One call on 0, then one placed line on 1.
        self.same(placed(rung(house, "b", "c").tick()), [("b", 1), ("c", 0)])
        self.same([house[0][2], house[1][2], house("c")[3]], [("a",), ("b",), 0])
        # A call and a placed line on 0.
        self.same(placed(rung(house, "d").tick()), [("d", 1)])

    def test_masked_lines_count(self):
        house = self.least(2, "a", "b", route=(0, 1))
        rung(house, "a")
        house.move("a", 0)
        house.mask("a")
        self.same(placed(rung(house, "b").tick()), [("b", 1)])

    def test_lines_by_other_rules_count(self):
        house = house_of(2, *long("a", "b", "c"), routes=(("c", "least", (0, 1)),))
        self.same(placed(rung(house, "a", "b", "c").tick()), [("a", 0), ("b", 0), ("c", 1)])

    def test_calls_beneath_count(self):
        lines = [edge("a", 1, ("run", 9)), edge("b", 2, ("run", 9)), edge("c", 3, ("run", 9))]
        house = house_of(2, *lines, routes=(("c", "least", (0, 1)),))
        rung(house, "a").tick()
        rung(house, "b").tick()
        self.same(house[0][2], ("a", "b"))
        rung(house, "c")
        house.move("c", 1)
        self.same([house.tick(), house[1][2]], [[("begin", 2, "c", 1)], ("c",)])

    def test_only_processors_of_the_route_that_are_on(self):
        house = self.least(3, "a", "b", route=(0, 2))
        rung(house, "a").tick()
        house.leave(2)
        self.same(placed(rung(house, "b").tick()), [("b", 0)])

    def test_processors_that_come(self):
        house = self.least(3, "a", "b", "c")
        house.leave(0)
        self.same(placed(rung(house, "a").tick()), [("a", 1)])
        house.come(0)
        self.same(placed(rung(house, "b", "c").tick()), [("b", 0), ("c", 2)])


class TurnTest(Case):
    def turn(self, *route, count=3):
        return house_of(count, *short("a"), routes=(("a", "turn", route),))

    def turns(self, house, times):
        return [placed(rung(house, "a").tick())[0][1] for _ in range(times)]

    def test_round_the_route(self):
        self.same(self.turns(self.turn(0, 1, 2), 7), [0, 1, 2, 0, 1, 2, 0])
        self.same(self.turns(self.turn(2, 0, 1), 5), [2, 0, 1, 2, 0])
        self.same(self.turns(self.turn(1), 3), [1, 1, 1])

    def test_those_that_are_not_on_are_passed(self):
        house = self.turn(0, 1, 2, 3, count=4)
        house.leave(0)
        self.same(self.turns(house, 1), [1])
        house.leave(2)
        self.same(self.turns(house, 2), [3, 1])
        house.come(0)
        self.same(self.turns(house, 3), [3, 0, 1])
        house.come(2)
        self.same(self.turns(house, 2), [2, 3])

    def test_the_one_before_is_the_last_choice(self):
        house = self.turn(0, 1)
        self.same(self.turns(house, 1), [0])
        house.leave(1)
        self.same(self.turns(house, 2), [0, 0])

    def test_moves_by_hand_between(self):
        house = self.turn(0, 1, 2)
        self.same(self.turns(house, 1), [0])
        rung(house, "a")
        house.move("a", 2)
        self.same(house.tick()[0], ("begin", 1, "a", 2))
        # The rule itself placed the line on 0 last.
        self.same(self.turns(house, 2), [1, 2])

    def test_moves_by_hand_behind_the_rule(self):
        house = house_of(3, *short("a"), *long("top", rank=9), routes=(("a", "turn", (0, 1, 2)),))
        rung(house, "top").tick()
        self.same(placed(rung(house, "a").tick()), [("a", 0)])
        self.same([house.move("a", 2), house.tick()[0]], [0, ("begin", 2, "a", 2)])
        self.same(self.turns(house, 2), [1, 2])

    def test_each_line_has_its_own_turn(self):
        house = house_of(2, *short("a", "b"), routes=(("a", "turn", (0, 1)), ("b", "turn", (0, 1))))
        self.same(placed(rung(house, "a").tick()), [("a", 0)])
        self.same(placed(rung(house, "a", "b").tick()), [("a", 1), ("b", 0)])
        self.same(placed(rung(house, "b").tick()), [("b", 1)])

    def test_a_line_that_is_not_placed_takes_no_turn(self):
        house = self.turn(1, 2)
        house.leave(1)
        house.leave(2)
        rung(house, "a")
        self.same([house.tick(), house.tick()], [[("off", 0, 1), ("off", 0, 2)], []])
        house.come(2)
        self.same(placed(house.tick()), [("a", 2)])
        house.come(1)
        self.same(self.turns(house, 2), [1, 2])


class PlaceTest(Case):
    def test_the_order_of_the_lines(self):
        house = house_of(1, *short("b", "c", rank=4), *short("a", rank=9), *short("d", "ax", rank=4))
        rung(house, "d", "c", "a", "b", "ax")
        self.same(placed(house.tick()), [("a", 0), ("ax", 0), ("b", 0), ("c", 0), ("d", 0)])

    def test_none_of_the_route_is_on(self):
        house = house_of(2, *short("a"), routes=(("a", "first", (1,)),))
        house.leave(1)
        rung(house, "a")
        self.same(house.ticks(2), [("off", 0, 1)])
        self.same([house("a")[2:5], house.fate(0)], [(True, None, None), ("waits", None)])
        house.come(1)
        self.same(house.tick(), [("place", 2, "a", 1), ("begin", 2, "a", 1), ("end", 2, "a", 1)])

    def test_masked_lines_are_not_placed(self):
        house = house_of(1, *short("a"))
        house.mask("a")
        rung(house, "a")
        self.same([house.ticks(2), house("a")[:4]], [[], (False, False, True, None)])
        house.unmask("a")
        self.same(house.tick(), [("place", 2, "a", 0), ("begin", 2, "a", 0), ("end", 2, "a", 0)])

    def test_a_masked_line_keeps_its_place(self):
        house = house_of(2, *short("a"), *long("top", rank=9), routes=(("a", "turn", (0, 1)),))
        rung(house, "top", "a").tick()
        house.mask("a")
        self.same([house("a"), house.ticks(3)], [(False, False, True, 0, None, None), []])
        self.same(house("a"), (False, False, True, 0, None, None))
        house.leave(1)
        house.ticks(95)
        self.same(house.ticks(2), [])
        house.unmask("a")
        self.same(house.tick(), [("begin", 101, "a", 0), ("end", 101, "a", 0)])

    def test_a_level_that_goes_low_loses_its_place(self):
        house = house_of(2, level("a", 5, RUN, ("quiet", "a")), *long("top", rank=9), routes=(("a", "turn", (0, 1)),))
        rung(house, "top", "a").tick()
        self.same([house("a"), house.quiet("a"), house("a")], [(True, True, True, 0, None, None), True, (True, False, False, None, None, None)])
        self.same(house.tick(), [])
        rung(house, "a")
        self.same(house("a")[2:4], (True, None))
        self.same(house.tick(), [("place", 2, "a", 1), ("begin", 2, "a", 1), ("end", 2, "a", 1)])

    def test_a_level_that_goes_low_and_high_again(self):
        house = house_of(2, level("a", 5, RUN), *long("top", rank=9), routes=(("a", "turn", (0, 1)),))
        rung(house, "top", "a").tick()
        self.same([house.quiet("a"), house.ring("a"), house("a")[1:4]], [True, "waits", (True, True, None)])
        self.same(house.tick()[0], ("place", 1, "a", 1))

    def test_a_line_that_has_begun_is_not_placed(self):
        house = house_of(2, *long("a"))
        rung(house, "a").tick()
        self.same(house("a"), (True, False, False, None, 0, None))

    def test_a_placed_line_stays_where_it_is(self):
        house = house_of(2, *long("a", "b"), routes=(("a", "first", (0,)), ("b", "least", (0, 1))))
        rung(house, "b").tick()
        self.same(house[0][2], ("b",))
        rung(house, "a").tick()
        self.same(house("a")[3], 0)
        # Processor 1 is free, but the line is placed already.
        self.same([house.ticks(5), house("a")[3], house[1][2]], [[], 0, ()])


class TakeTest(Case):
    def test_only_lines_that_are_placed_there(self):
        house = house_of(3, *short("b", rank=3), *short("a", rank=9), routes=(("a", "first", (1,)), ("b", "first", (0,))))
        rung(house, "a", "b")
        log = [("place", 0, "a", 1), ("place", 0, "b", 0), ("begin", 0, "b", 0), ("begin", 0, "a", 1), ("end", 0, "b", 0), ("end", 0, "a", 1)]
        self.same(house.tick(), log)

    def test_one_line_a_processor(self):
        house = rung(house_of(1, *short("a", "b", "c")), "a", "b", "c")
        begins = [event for event in house.ticks(4) if event[0] == "begin"]
        self.same(begins, [("begin", 0, "a", 0), ("begin", 1, "b", 0), ("begin", 2, "c", 0)])

    def test_only_the_first_one_in_order(self):
        # The first one that waits there is barred, so none begins.
        house = house_of(1, edge("bar", 1, ("bar", 5), ("run", 9)), *short("a", rank=5), *short("b", rank=4))
        rung(house, "bar").tick()
        self.same(placed(rung(house, "a", "b").tick()), [("a", 0), ("b", 0)])
        self.same(house.ticks(3), [])

    def test_a_masked_line_does_not_bar_the_next_one(self):
        house = house_of(1, *short("a", rank=9), *short("b", rank=4))
        rung(house, "a", "b")
        house.move("a", 0)
        house.mask("a")
        self.same(house.tick(), [("place", 0, "b", 0), ("begin", 0, "b", 0), ("end", 0, "b", 0)])

    def test_bars_and_calls_are_those_of_each_processor(self):
        lines = (edge("guard", 5, ("bar", 8), ("run", 9)), *short("a", rank=6), *short("b", rank=6))
        house = house_of(2, *lines, routes=(("guard", "first", (0,)), ("a", "first", (0,)), ("b", "first", (1,))))
        rung(house, "guard").tick()
        self.same([house[0][1], house[1][1]], [8, 0])
        rung(house, "a", "b")
        self.same(house.tick(), [("place", 1, "a", 0), ("place", 1, "b", 1), ("begin", 1, "b", 1), ("end", 1, "b", 1)])

    def test_one_call_of_a_line_at_most(self):
        house = house_of(2, edge("a", 5, ("run", 3)), routes=(("a", "turn", (0, 1)),))
        rung(house, "a").tick()
        self.same([house.ring("a"), house("a")], ["waits", (True, False, True, None, 0, None)])
        self.same(house.ticks(2), [("end", 2, "a", 0)])
        self.same(house.tick(), [("place", 3, "a", 1), ("begin", 3, "a", 1)])

    def test_a_level_has_one_call_too(self):
        house = house_of(2, level("a", 5, ("run", 2)), routes=(("a", "turn", (0, 1)),))
        rung(house, "a")
        self.same(house.ticks(3), [("place", 0, "a", 0), ("begin", 0, "a", 0), ("end", 1, "a", 0), ("place", 2, "a", 1), ("begin", 2, "a", 1)])
        self.same(house("a"), (True, True, False, None, 1, None))

    def test_a_line_that_rings_itself_begins_in_the_next_tick(self):
        house = house_of(2, edge("a", 5, ("ring", "a")), routes=(("a", "turn", (0, 1)),))
        rung(house, "a")
        self.same(house.tick(), [("place", 0, "a", 0), ("begin", 0, "a", 0), ("end", 0, "a", 0)])
        self.same(house.tick(), [("place", 1, "a", 1), ("begin", 1, "a", 1), ("end", 1, "a", 1)])

    def test_leaving_processors_take_nothing(self):
        house = house_of(2, *long("a", "b"))
        rung(house, "a", "b").tick()
        self.same([house("b")[3], house.leave(0), house("b")[3]], [0, ["b"], None])
        self.same(house.tick(), [("place", 1, "b", 1), ("begin", 1, "b", 1)])


class AtOnceTest(Case):
    def both(self, steps, other, first=0):
        """Two lines that begin at one tick, one behind the other."""
        routes = (("a", "first", (first,)), ("b", "first", (1 - first,)))
        return rung(house_of(2, edge("a", 5, *steps), other, routes=routes), "a", other[0])

    def begins(self, house):
        return [event[2] for event in house.tick() if event[0] == "begin"]

    def test_a_mask_holds_for_the_processors_behind(self):
        steps = (("mask", "b"), RUN)
        house = self.both(steps, edge("b", 5, RUN))
        self.same([self.begins(house), house("b")], [["a"], (False, False, True, 1, None, None)])
        self.same(self.begins(self.both(steps, edge("b", 5, RUN), first=1)), ["b", "a"])

    def test_an_unmask_holds_for_the_processors_behind(self):
        for first, begun in ((0, ["a", "b"]), (1, ["a"])):
            house = self.both((("unmask", "b"), RUN), edge("b", 5, RUN), first)
            house.move("b", 1 - first)
            house.mask("b")
            self.same(self.begins(house), begun)

    def test_an_unmask_comes_behind_placing(self):
        house = self.both((("unmask", "b"), RUN), edge("b", 5, RUN))
        house.mask("b")
        self.same([self.begins(house), house("b")[:4]], [["a"], (True, False, True, None)])

    def test_a_level_made_quiet_is_not_taken_behind(self):
        house = self.both((("quiet", "b"), RUN), level("b", 5, RUN))
        self.same([self.begins(house), house("b")], [["a"], (True, False, False, None, None, None)])
        house = self.both((("quiet", "b"), RUN), level("b", 5, RUN), first=1)
        self.same([self.begins(house), house("b")[1:]], [["b", "a"], (False, False, None, None, None)])

    def test_a_level_quiet_and_high_again_has_lost_its_place(self):
        house = self.both((("quiet", "b"), ("ring", "b"), RUN), level("b", 5, RUN))
        self.same([self.begins(house), house("b")[1:4]], [["a"], (True, True, None)])

    def test_a_ring_comes_behind_placing(self):
        house = house_of(2, edge("a", 5, ("ring", "b"), RUN), edge("b", 5, RUN))
        self.same(placed(rung(house, "a").tick()), [("a", 0)])
        self.same(house.tick(), [("place", 1, "b", 0), ("begin", 1, "b", 0), ("end", 1, "b", 0)])

    def test_a_flag_set_in_taking(self):
        house = self.both((("set", 3), RUN), edge("b", 5, ("await", 3), ("run", 2)))
        house.tick()
        self.same(house.tick(), [("end", 1, "b", 1)])
        # The handler that begins ahead of the flag still passes it before its tick is spent.
        house = self.both((("set", 3), RUN), edge("b", 5, ("await", 3), ("run", 2)), first=1)
        house.tick()
        self.same(house.tick(), [("end", 1, "b", 0)])

    def test_a_flag_set_in_going_on(self):
        house = self.both((RUN, ("set", 3)), edge("b", 5, ("await", 3), RUN))
        self.same([event for event in house.tick() if event[0] == "end"], [("end", 0, "a", 0), ("end", 0, "b", 1)])
        house = self.both((RUN, ("set", 3)), edge("b", 5, ("await", 3), RUN), first=1)
        self.same([event for event in house.tick() if event[0] == "end"], [("end", 0, "a", 1)])
        self.same(house.tick(), [("end", 1, "b", 0)])

    def test_a_flag_cleared_in_going_on(self):
        for first, ended in ((0, ["a"]), (1, ["b", "a"])):
            house = self.both((RUN, ("clear", 3)), edge("b", 5, RUN, ("await", 3)), first)
            house.set_flag(3)
            self.same([event[2] for event in house.tick() if event[0] == "end"], ended)


class GoOnTest(Case):
    def test_each_processor_spends_its_tick(self):
        house = house_of(3, *long("a", "b", "c"), routes=tuple([(name, "least", (0, 1, 2)) for name in "abc"]))
        rung(house, "a", "b", "c")
        self.same([event for event in house.ticks(99) if event[0] == "end"], [("end", 98, "a", 0), ("end", 98, "b", 1), ("end", 98, "c", 2)])

    def test_each_processor_has_its_own_works(self):
        works = (("w", 1, 2),)
        house = house_of(2, edge("a", 5, ("later", "w")), works=works, routes=(("a", "turn", (0, 1)),))
        rung(house, "a").tick()
        self.same([house[0][3], house[1][3]], [("w",), ()])
        rung(house, "a")
        self.same(house.ticks(2)[3:], [("done", 1, "w", 0), ("done", 2, "w", 1)])
        self.same(house.done_counts, {"w": 2})

    def test_leaving_processors_go_on(self):
        house = house_of(2, edge("a", 5, ("run", 3)), works=(("w", 1, 2),))
        rung(house, "a").tick()
        house.leave(0)
        self.same([house.tick(), house[0]], [[], ("leaving", 0, ("a",), ())])
        self.same([house.tick(), house[0]], [[("end", 2, "a", 0), ("off", 2, 0)], ("off", 0, (), ())])

    def test_leaving_processors_spend_a_tick_on_works(self):
        house = house_of(2, edge("a", 5, ("later", "w")), works=(("w", 1, 2),))
        rung(house, "a").tick()
        house.leave(0)
        self.same(house.tick(), [("done", 1, "w", 0), ("off", 1, 0)])

    def test_a_leaving_processor_that_waits_for_a_flag(self):
        house = house_of(2, edge("a", 5, ("await", 0)), *short("b"))
        rung(house, "a").tick()
        house.leave(0)
        self.same([house.ticks(5), house[0][0]], [[], "leaving"])
        house.set_flag(0)
        self.same(house.tick(), [("end", 6, "a", 0), ("off", 6, 0)])

    def test_a_leaving_processor_comes_back(self):
        house = house_of(2, *long("a"), *short("b", rank=9))
        rung(house, "a").tick()
        house.leave(0)
        house.tick()
        self.same(house.come(0), True)
        self.same(rung(house, "b").tick(), [("place", 2, "b", 0), ("begin", 2, "b", 0), ("end", 2, "b", 0)])
        self.same(house[0], ("on", 0, ("a",), ()))


class PartsTest(Case):
    def test_the_parts_of_a_tick_in_their_order(self):
        lines = (
            edge("a", 9, RUN),
            edge("b", 8, ("set", 1)),
            edge("c", 7, RUN, ("later", "w")),
            edge("d", 6, ("later", "v")),
        )
        routes = (("a", "first", (2,)), ("b", "first", (1,)), ("c", "first", (0,)), ("d", "first", (3,)))
        house = house_of(4, *lines, works=(("w", 1, 3), ("v", 1, 1)), routes=routes)
        rung(house, "c").tick()
        house.leave(0)
        rung(house, "a", "b", "c", "d")
        house.come(0)
        house.leave(0)
        house.leave(2)
        house.come(2)
        self.same(house.tick(), [
            ("place", 1, "a", 2), ("place", 1, "b", 1), ("place", 1, "d", 3),
            ("begin", 1, "b", 1), ("end", 1, "b", 1), ("begin", 1, "a", 2), ("begin", 1, "d", 3), ("end", 1, "d", 3),
            ("end", 1, "a", 2), ("done", 1, "v", 3),
            ("off", 1, 0), ("moved", 1, "w", 1),
        ])
        self.same([house.now, house("c")[2:4]], [2, (True, None)])

    def test_off_and_moved_of_several(self):
        lines = (edge("a", 5, ("later", "w"), ("later", "v")), edge("b", 4, ("later", "w")))
        routes = (("a", "first", (0,)), ("b", "first", (1,)))
        house = house_of(3, *lines, works=(("w", 1, 9), ("v", 2, 9)), routes=routes)
        rung(house, "a", "b").tick()
        house.leave(0)
        house.leave(1)
        # The works of processor 1, which go on while it leaves, have begun, and move last.
        self.same(house.tick(), [("off", 1, 0), ("moved", 1, "v", 2), ("moved", 1, "w", 2), ("off", 1, 1), ("moved", 1, "w", 2)])
        self.same(house[2], ("on", 0, (), ("v", "w", "w")))

    def test_nothing_happens(self):
        house = House(usual(), 6)
        self.same([house.ticks(5), house.now, house.log], [[], 5, []])


if __name__ == "__main__":
    unittest.main()
