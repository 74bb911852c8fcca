"""Point 12: works that move, and storms."""

import unittest

from callbells.houses import House

from helpers import Case, edge, house_of, level, rung, usual

RUN = ("run", 1)
POSTS = ("x", "y", "z")
WORKS = (("x", 2, 4), ("y", 5, 4), ("z", 2, 4))


def posts(count):
    """For each processor and work a line, as x0, that leaves this work there and takes no tick."""
    lines = [edge(work + "abcdef"[at], 1 + at, ("later", work)) for at in range(count) for work in POSTS]
    routes = [(work + "abcdef"[at], "first", (at,)) for at in range(count) for work in POSTS]
    return house_of(count, *lines, works=WORKS, routes=tuple(routes))


def left(house, *lines):
    """The house behind lines that leave works, one a tick, and the events but those of lines."""
    events = []
    for line in lines:
        events.extend(rung(house, line).tick())
    return [event for event in events if event[0] not in ("place", "begin", "end")]


def stuck(*works):
    """A house in which a call on each processor has left works, and awaits the processor's flag.

    Behind the flag the call takes the tick, so no tick is spent on works until it has ended.
    """
    names = "abcdef"[:len(works)]
    lines = [edge(names[at], 1, *[("later", work) for work in works[at]], ("await", at), RUN) for at in range(len(works))]
    routes = tuple([(names[at], "first", (at,)) for at in range(len(works))])
    house = rung(house_of(len(works), *lines, works=WORKS, routes=routes), *names)
    house.tick()
    return house


def freed(house, *processors):
    """The events but those of lines of a tick in which processors leave whose calls end in it."""
    for processor in processors:
        house.leave(processor)
        house.set_flag(processor)
    return [event for event in house.tick() if event[0] != "end"]


class MovedTest(Case):
    def works(self, house):
        return [house[at][3] for at in range(house.processor_count)]

    def test_the_example(self):
        house = House(usual(), 2)
        house.ring("net")
        house.tick()
        house.leave(0)
        self.same(house.ticks(2), [("end", 2, "net", 0), ("off", 2, 0), ("moved", 2, "flush", 1)])
        self.same([house.ticks(4), house.done_counts], [[("done", 6, "flush", 1)], {"flush": 1}])

    def test_to_the_one_with_the_fewest_works(self):
        house = stuck("x", "yx", "", "x")
        self.same(self.works(house), [("x",), ("y", "x"), (), ("x",)])
        self.same(freed(house, 0), [("off", 1, 0), ("moved", 1, "x", 2)])
        self.same(self.works(house), [(), ("y", "x"), ("x",), ("x",)])

    def test_works_that_have_moved_count(self):
        house = stuck("xz", "y", "", "")
        self.same(freed(house, 0, 1), [("off", 1, 0), ("moved", 1, "x", 2), ("moved", 1, "z", 2), ("off", 1, 1), ("moved", 1, "y", 3)])

    def test_of_several_the_first_one(self):
        house = posts(4)
        left(house, "xd", "yd")
        house.leave(3)
        self.same(house.tick(), [("off", 2, 3), ("moved", 2, "y", 0), ("moved", 2, "x", 0)])

    def test_only_to_processors_that_are_on(self):
        house = posts(4)
        left(house, "xd")
        house.leave(0)
        house.tick()
        house.leave(1)
        house.leave(3)
        # Processor 0 is off, 1 goes off in this tick, too.
        self.same(house.tick(), [("off", 2, 1), ("off", 2, 3), ("moved", 2, "x", 2)])

    def test_not_to_one_that_leaves_with_a_call(self):
        house = house_of(3, edge("a", 5, ("run", 9)), edge("b", 5, ("later", "x")), works=WORKS, routes=(("b", "first", (2,)),))
        rung(house, "a", "b").tick()
        house.leave(0)
        house.leave(2)
        self.same([house.tick(), house[0][0]], [[("off", 1, 2), ("moved", 1, "x", 1)], "leaving"])

    def test_all_works_move_to_one(self):
        house = posts(3)
        left(house, "xa", "ya", "za")
        house.leave(0)
        # The rank goes first, then the order in which works were queued.
        self.same(house.tick(), [("off", 3, 0), ("moved", 3, "y", 1), ("moved", 3, "x", 1), ("moved", 3, "z", 1)])
        self.same(self.works(house), [(), ("y", "x", "z"), ()])

    def test_behind_those_that_are_there(self):
        house = stuck("z", "xyz")
        self.same(freed(house, 0), [("off", 1, 0), ("moved", 1, "z", 1)])
        house = stuck("z", "xy")
        self.same(freed(house, 1), [("off", 1, 1), ("moved", 1, "y", 0), ("moved", 1, "x", 0)])
        self.same(house[0][3], ("y", "z", "x"))

    def test_merged_if_neither_has_begun(self):
        house = stuck("z", "xy", "xyz")
        moved = [("moved", 1, "y", 0), ("moved", 1, "x", 0)]
        self.same(freed(house, 1, 2), [("off", 1, 1), *moved, ("off", 1, 2), *moved, ("moved", 1, "z", 0)])
        self.same(house[0][3], ("y", "z", "x"))
        house.set_flag(0)
        self.same(house.ticks(14)[1:], [("done", 6, "y", 0), ("done", 10, "z", 0), ("done", 14, "x", 0)])

    def test_a_work_that_has_begun_goes_on_where_it_was(self):
        house = posts(2)
        left(house, "xa", "za")
        house.leave(0)
        self.same(house.tick(), [("off", 2, 0), ("moved", 2, "x", 1), ("moved", 2, "z", 1)])
        # Three ticks of four were spent on it.
        self.same(house.ticks(5), [("done", 3, "x", 1), ("done", 7, "z", 1)])

    def test_a_work_that_has_begun_there_does_not_merge(self):
        house = posts(2)
        left(house, "ya", "xa", "xb")
        self.same(self.works(house), [("y", "x"), ("x",)])
        house.leave(0)
        # The x of processor 0 has not begun, that of processor 1 has.
        self.same(house.tick(), [("done", 3, "y", 0), ("off", 3, 0), ("moved", 3, "x", 1)])
        self.same([house[1][3], house.ticks(7)], [("x", "x"), [("done", 5, "x", 1), ("done", 9, "x", 1)]])

    def test_a_work_that_has_begun_elsewhere_is_queued_besides(self):
        house = posts(2)
        left(house, "xa", "yb", "xb")
        self.same(self.works(house), [("x",), ("y", "x")])
        house.leave(0)
        self.same(house.tick(), [("done", 3, "x", 0), ("off", 3, 0)])
        house = posts(2)
        left(house, "yb", "xb", "xa")
        house.leave(0)
        # That of processor 0 has two ticks, that of processor 1 none: it was queued first.
        self.same(house.tick(), [("done", 3, "y", 1), ("off", 3, 0), ("moved", 3, "x", 1)])
        self.same([house[1][3], house.ticks(6)], [("x", "x"), [("done", 7, "x", 1), ("done", 9, "x", 1)]])

    def test_a_merged_work_is_told_as_moved(self):
        house = posts(2)
        left(house, "ya", "yb", "xb", "xa")
        self.same(self.works(house), [("x",), ("y", "x")])
        house = posts(2)
        left(house, "yb", "xb", "zb", "ya", "za")
        self.same(self.works(house), [("y", "z"), ("x", "z")])
        house.leave(0)
        # The z of both have not begun, so there is one z on processor 1.
        self.same(house.tick(), [("off", 5, 0), ("moved", 5, "y", 1), ("moved", 5, "z", 1)])
        self.same(house[1][3], ("y", "x", "z"))

    def test_without_works_nothing_moves(self):
        house = House(usual(), 3)
        house.leave(1)
        self.same([house.tick(), house.tick()], [[("off", 0, 1)], []])


class StormTest(Case):
    def stormy(self, most, window, hold, *steps, count=2):
        """A line that begins whenever it rings, if it is not held back."""
        return house_of(count, edge("a", 5, *(steps or [("set", 0)])), storms=(("a", most, window, hold),))

    def begins(self, house, ticks):
        """The ticks in which the line begins, and is held, if it rings ahead of each."""
        told = []
        for _ in range(ticks):
            told.extend([event[:2] for event in rung(house, "a").tick() if event[0] in ("begin", "held")])
        return [tick for word, tick in told if word == "begin"], [tick for word, tick in told if word == "held"]

    def test_more_than_most(self):
        self.same(self.begins(self.stormy(1, 2, 3), 10), ([0, 1, 5, 6], [1, 6]))
        self.same(self.begins(self.stormy(2, 3, 3), 10), ([0, 1, 2, 6, 7, 8], [2, 8]))
        self.same(self.begins(self.stormy(3, 99, 1), 10), ([0, 1, 2, 3, 5, 7, 9], [3, 5, 7, 9]))

    def test_just_most_is_not_too_often(self):
        self.same(self.begins(self.stormy(3, 3, 9), 10), (list(range(10)), []))
        self.same(self.begins(self.stormy(1, 1, 99), 10), (list(range(10)), []))

    def rung_at(self, house, *ticks):
        for tick in ticks:
            house.ticks(tick - house.now)
            rung(house, "a").tick()
        return [event[1] for event in house.log if event[0] == "held"]

    def test_the_window(self):
        # In a tick and the 3 ticks before it.
        self.same(self.rung_at(self.stormy(1, 4, 1), 0, 3), [3])
        self.same(self.rung_at(self.stormy(1, 4, 1), 0, 4), [])
        self.same(self.rung_at(self.stormy(2, 6, 1), 0, 3, 5), [5])
        self.same(self.rung_at(self.stormy(2, 6, 1), 0, 3, 6, 8), [8])
        self.same(self.rung_at(self.stormy(1, 99, 1), 0, 98), [98])
        self.same(self.rung_at(self.stormy(1, 99, 1), 0, 99), [])

    def test_the_ticks_of_the_hold(self):
        house = self.stormy(1, 2, 3)
        self.rung_at(house, 0, 1)
        rung(house, "a")
        self.same([house("a"), house.fate(2)], [(True, False, True, None, None, 4), ("waits", None)])
        self.same([house.tick(), house.now, house("a")[5]], [[], 2 + 1, 4])
        self.same([house.tick(), house.now, house("a")[5]], [[], 4, 4])
        self.same([house.tick(), house.now, house("a")[5]], [[], 5, None])
        self.same(house.tick(), [("place", 5, "a", 0), ("begin", 5, "a", 0), ("end", 5, "a", 0)])

    def test_held_stands_behind_its_begin(self):
        house = self.stormy(1, 9, 2, ("ring", "a"), ("set", 1))
        house.ring("a")
        self.same(house.tick(), [("place", 0, "a", 0), ("begin", 0, "a", 0), ("end", 0, "a", 0)])
        self.same(house.tick(), [("place", 1, "a", 0), ("begin", 1, "a", 0), ("held", 1, "a"), ("end", 1, "a", 0)])
        self.same([house("a"), house.ticks(2)], [(True, False, True, None, None, 3), []])
        self.same(house.tick()[0], ("place", 4, "a", 0))

    def test_the_call_goes_on(self):
        house = self.stormy(1, 9, 5, ("run", 3))
        self.rung_at(house, 0, 3)
        self.same([house("a"), house.ticks(2)], [(True, False, False, None, 0, 8), [("end", 5, "a", 0)]])

    def test_moves_by_hand_while_it_is_held(self):
        house = self.stormy(1, 3, 9)
        self.rung_at(house, 0, 2)
        rung(house, "a")
        self.same([house("a")[5], house.move("a", 1)], [11, None])
        self.same(house.tick(), [("begin", 3, "a", 1), ("held", 3, "a"), ("end", 3, "a", 1)])
        self.same(house("a")[5], 12)
        house.ticks(4)
        rung(house, "a")
        house.move("a", 1)
        # Not too often any more, but held back as before.
        self.same([house.tick(), house("a")[5]], [[("begin", 8, "a", 1), ("end", 8, "a", 1)], 12])

    def test_levels(self):
        house = house_of(1, level("a", 5, RUN), storms=(("a", 2, 5, 4),))
        house.ring("a")
        begins = [event[1] for event in house.ticks(20) if event[0] == "begin"]
        # Behind tick 7, the begins of 2 and 7 are counted; behind tick 8 those of 7 and 8.
        self.same(begins, [0, 1, 2, 7, 8, 9, 14, 15, 16])

    def test_whichever_processor_it_is(self):
        house = house_of(2, edge("a", 5, ("set", 0)), routes=(("a", "turn", (0, 1)),), storms=(("a", 1, 2, 3),))
        self.same(self.begins(house, 8), ([0, 1, 5, 6], [1, 6]))

    def test_each_line_has_its_own_storm(self):
        lines = [edge(name, 5, ("set", 0)) for name in "abc"]
        house = house_of(3, *lines, routes=tuple([(name, "least", (0, 1, 2)) for name in "abc"]), storms=(("b", 1, 3, 4), ("a", 2, 3, 9)))
        for _ in range(3):
            rung(house, "a", "b", "c").tick()
        self.same([event for event in house.log if event[0] == "held"], [("held", 1, "b"), ("held", 2, "a")])
        self.same([house("a")[5], house("b")[5], house("c")[5]], [11, 5, None])

    def test_a_held_line_can_be_masked(self):
        house = self.stormy(1, 2, 3)
        self.rung_at(house, 0, 1)
        rung(house, "a")
        house.mask("a")
        house.ticks(9)
        self.same(house("a"), (False, False, True, None, None, None))
        house.unmask("a")
        self.same(house.tick()[0], ("place", 11, "a", 0))


if __name__ == "__main__":
    unittest.main()
