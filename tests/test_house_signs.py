"""Points 14 and 15: what is told of a house, and the fates of rings."""

import unittest

from callbells.errors import InvalidNumber, UnknownLine, UnknownProcessor
from callbells.houses import House
from callbells.setups import Setup

from helpers import FLUSH, HEAT, NET, ODD_VALUES, Case, edge, house_of, level, rung, told, usual

RUN = ("run", 1)


class SignsTest(Case):
    def test_processors(self):
        lines = (edge("a", 1, ("bar", 2), ("later", "w"), ("later", "v"), ("later", "u"), ("run", 9)), edge("b", 5, ("bar", 7), ("run", 9)))
        house = house_of(2, *lines, works=(("w", 1, 3), ("v", 1, 3), ("u", 2, 3)))
        self.same(house[0], ("on", 0, (), ()))
        rung(house, "a").tick()
        self.same(house[0], ("on", 2, ("a",), ("u", "w", "v")))
        rung(house, "b").tick()
        house.leave(0)
        self.same([house[0], house[1]], [("leaving", 7, ("a", "b"), ("u", "w", "v")), ("on", 0, (), ())])

    def test_unknown_processors(self):
        house = House(usual(), 2)
        for processor in (2, "net", (0, 1), *ODD_VALUES):
            self.raises(UnknownProcessor, lambda: house[processor], processor=processor)

    def test_lines(self):
        house = House(usual(), 2, storms=(("disk", 1, 9, 3),))
        self.same([house("net"), house("heat")], [(True, False, False, None, None, None)] * 2)
        rung(house, "net", "heat", "disk")
        house.mask("heat")
        self.same([house("net"), house("heat")], [(True, False, True, None, None, None), (False, True, True, None, None, None)])
        house.tick()
        self.same([house("net"), house("disk")], [(True, False, True, 0, None, None), (True, False, False, None, 0, None)])
        rung(house, "disk")
        house.ticks(2)
        self.same(house("disk"), (True, False, False, None, 0, 5))
        house.unmask("heat")
        house.ticks(5)
        self.same([house("disk")[5], house("heat")], [None, (True, False, False, None, None, None)])

    def test_a_level_under_way(self):
        house = rung(house_of(1, level("a", 5, ("run", 3))), "a")
        house.tick()
        self.same(house("a"), (True, True, False, None, 0, None))

    def test_unknown_lines(self):
        house = House(usual(), 2)
        for line in ("fan", "flush", 0, *ODD_VALUES):
            self.raises(UnknownLine, house, line, line=line)
            self.raises(UnknownLine, house.ring_of, line, line=line)

    def test_len_is_the_number_of_those_on(self):
        house = House(usual(), 3)
        self.same(len(house), 3)
        house.leave(0)
        self.same(len(house), 2)
        house.tick()
        house.leave(2)
        self.same(len(house), 1)
        house.come(0)
        self.same(len(house), 2)

    def test_in(self):
        house = House(usual(), 2)
        self.same(["net" in house, "heat" in house, "fan" in house, "flush" in house, 0 in house], [True, True, False, False, False])
        for value in ODD_VALUES:
            self.same(value in house, False)

    def test_no_iteration(self):
        house = House(usual(), 2)
        for call in (iter, list, tuple, sorted, lambda one: [p for p in one], lambda one: [*one]):
            with self.assertRaises(TypeError):
                call(house)

    def test_counts(self):
        house = House(Setup((NET, HEAT, edge("a", 9, RUN)), (FLUSH, ("a", 1, 1))), 1)
        self.same([house.begin_counts, house.done_counts], [{"net": 0, "heat": 0, "a": 0}, {"flush": 0, "a": 0}])
        rung(house, "net", "a")
        house.ticks(9)
        rung(house, "a")
        house.tick()
        self.same([house.begin_counts, house.done_counts], [{"net": 1, "heat": 0, "a": 2}, {"flush": 1, "a": 0}])

    def test_what_is_told_belongs_to_the_caller(self):
        house = rung(House(usual(), 2), "net")
        house.set_flag(3)
        house.ticks(2)
        before = repr(told(house))
        house.flags_up.append(9)
        house.log.clear()
        house.rings.append(None)
        house.begin_counts["net"] = 99
        house.begin_counts.clear()
        house.done_counts.clear()
        self.same(repr(told(house)), before)
        events = house.ticks(1)
        self.same(events, [("end", 2, "net", 0)])
        events.clear()
        self.same(house.log[-1], ("end", 2, "net", 0))
        lines = house.leave(0)
        lines.append("net")
        self.same(house("net")[3], None)

    def test_they_are_properties(self):
        for name in ("now", "flags_up", "begin_counts", "done_counts", "log", "rings"):
            self.assertIsInstance(House.__dict__[name], property)

    def test_all_methods_are_its_own(self):
        names = ("ring", "quiet", "mask", "unmask", "set_flag", "clear_flag", "tick", "ticks", "leave", "come", "move", "fate", "ring_of", "copied")
        for name in (*names, "__getitem__", "__call__", "__len__", "__contains__", "__eq__", "__init__"):
            self.assertIn(name, House.__dict__)


class EqualTest(Case):
    def test_nothing_else(self):
        house = House(usual(), 2)
        for value in (usual(), told(house), house.log, *ODD_VALUES):
            self.same([house == value, house != value], [False, True])

    def test_what_they_were_made_of(self):
        routes, storms = (("net", "turn", (0, 1)),), (("net", 1, 2, 3),)
        self.assertEqual(House(usual(), 2, routes=routes, storms=storms), House(usual(), 2, routes=routes, storms=storms))
        houses = [
            House(usual(), 2),
            House(usual(), 3),
            House(usual().with_rank("net", 6), 2),
            House(usual(), 2, routes=(("net", "first", (0, 1)),)),
            House(usual(), 2, routes=routes),
            House(usual(), 2, routes=(("net", "turn", (1, 0)),)),
            House(usual(), 2, storms=storms),
            House(usual(), 2, storms=(("net", 1, 2, 4),)),
        ]
        for one in houses:
            for other in houses:
                self.same(one == other, one is other)

    def differ(self, start, one, other=lambda house: None):
        """Houses behind one deed or another are not equal."""
        with self.subTest(one=one):
            house, first, second = start(), start(), start()
            self.same(house == first, True)
            one(first)
            other(second)
            self.same([house == first, first == second, first == first], [False, False, True])

    def test_the_state(self):
        def start():
            return rung(House(usual(), 3), "net")

        for deed in (
            lambda house: house.ring("disk"),
            lambda house: house.ring("heat"),
            lambda house: house.ring("net"),
            lambda house: house.mask("disk"),
            lambda house: house.set_flag(5),
            lambda house: house.leave(2),
            lambda house: house.move("net", 0),
            lambda house: house.tick(),
        ):
            self.differ(start, deed)

    def test_the_ticks_spent_on_calls(self):
        lines = (edge("a", 5, ("await", 0), ("run", 3)), edge("b", 5, ("set", 0)))

        def played(flag_at):
            house = rung(house_of(1, *lines), "a")
            house.ticks(flag_at)
            house.set_flag(0)
            house.ticks(3 - flag_at)
            return house

        # In both the call is at its second step, and nothing else is told of it.
        one, other = played(1), played(2)
        self.same([told(one), one == other], [told(other), False])

    def test_the_steps_of_calls(self):
        handler = (("await", 0), ("run", 9), ("run", 9))
        one, other = [rung(house_of(1, edge("a", 5, *handler)), "a") for _ in range(2)]
        one.set_flag(0)
        one.ticks(5)
        other.ticks(5)
        other.set_flag(0)
        self.same([told(one), one == other], [told(other), False])

    def test_the_ticks_spent_on_works(self):
        lines = (edge("a", 5, ("later", "w")), edge("b", 5, ("await", 1), RUN, ("await", 0)))

        def played(flag_at):
            house = rung(house_of(1, *lines, works=(("w", 1, 9),)), "a")
            house.tick()
            rung(house, "b")
            house.ticks(flag_at - 1)
            house.set_flag(1)
            house.ticks(2 - flag_at)
            house.set_flag(0)
            house.tick()
            return house

        # The call ends in tick 2 ahead of what is spent, or behind it.
        one, other = played(1), played(2)
        self.same([told(one), one == other], [told(other), False])

    def test_fates_and_rings(self):
        def start():
            return rung(House(usual(), 2), "net", "disk")

        # The rings happen in another order.
        self.differ(start, lambda house: rung(house, "net", "disk"), lambda house: rung(house, "disk", "net"))

    def test_where_a_turn_goes_on_is_not_told(self):
        # Placed by the rule, or by hand, at the same tick: all that is told is the same.
        one, other = [rung(House(usual(), 2, routes=(("net", "turn", (0, 1)),)), "net") for _ in range(2)]
        other.move("net", 0)
        one.tick()
        other.tick()
        self.same([told(one), one == other], [told(other), True])
        self.same([rung(house, "net").ticks(9)[1][2:] for house in (one, other)], [("net", 1), ("net", 0)])


class CopyTest(Case):
    def busy(self):
        lines = (edge("a", 5, ("later", "w"), ("run", 2)), level("b", 6, RUN, ("quiet", "b")), edge("c", 7, ("bar", 8), ("await", 2), ("ring", "a")))
        routes, storms = (("a", "turn", (0, 1, 2)), ("c", "least", (2, 1))), (("a", 1, 4, 3),)
        house = house_of(3, *lines, works=(("w", 2, 3),), routes=routes, storms=storms)
        rung(house, "a", "c", "b")
        house.ticks(3)
        rung(house, "a")
        house.leave(2)
        house.ticks(1)
        return house

    def go_on(self, house):
        results = [house.ring("a"), house.set_flag(2), house.ticks(2), house.ring("a"), house.clear_flag(2), house.ticks(9)]
        return results + [house.ring("b"), house.ring("a"), house.move("a", 1), house.ticks(9)]

    def test_the_same_state(self):
        house = self.busy()
        copy = house.copied()
        self.assertIsInstance(copy, House)
        self.assertIsNot(copy, house)
        self.same([copy == house, told(copy)], [True, told(house)])

    def test_both_go_on_apart(self):
        house = self.busy()
        copy = house.copied()
        before = repr(told(house))
        events = self.go_on(copy)
        self.same([repr(told(house)), copy == house], [before, False])
        self.same([self.go_on(house), copy == house, told(copy)], [events, True, told(house)])
        later = repr(told(copy))
        self.go_on(house)
        self.same(repr(told(copy)), later)

    def test_placed_and_held_lines(self):
        house = rung(house_of(2, edge("a", 5, ("set", 0)), edge("b", 4, RUN), storms=(("a", 1, 3, 9),)), "a", "b")
        house.move("b", 1)
        house.mask("b")
        house.tick()
        rung(house, "a").tick()
        rung(house, "a")
        copy = house.copied()
        self.same([copy("a"), copy("b"), copy.fate(1)], [(True, False, True, None, None, 10), (False, False, True, 1, None, None), ("waits", 1)])
        house.move("a", 1)
        house.move("b", 0)
        self.same([copy("a")[3], copy("b")[3], copy == house], [None, 1, False])

    def test_a_copy_at_each_tick(self):
        house = self.busy()
        copies = []
        for tick in range(15):
            copies.append(house.copied())
            if tick % 4 == 1:
                rung(house, "a", "c")
            house.tick()
        for tick, copy in enumerate(copies):
            for later in range(tick, 15):
                if later % 4 == 1:
                    rung(copy, "a", "c")
                copy.tick()
            self.same([told(copy), copy == house], [told(house), True])


class FateTest(Case):
    def test_rings_by_deeds(self):
        house = rung(House(usual(), 2), "net", "disk", "net")
        self.same(house.rings, [(0, "net"), (0, "disk"), (0, "net")])
        self.same([house.fate(number) for number in range(3)], [("waits", None), ("waits", None), ("merged", 0)])
        self.same([house.ring_of("net"), house.ring_of("disk")], [0, 1])
        house.tick()
        self.same([house.fate(number) for number in range(3)], [("waits", 0), ("served", 0, 0), ("merged", 0)])
        rung(house, "disk", "net", "disk")
        self.same(house.rings[3:], [(1, "disk"), (1, "net"), (1, "disk")])
        self.same([house.fate(number) for number in range(3, 6)], [("waits", None), ("merged", 0), ("merged", 3)])
        house.move("net", 1)
        self.same([house.fate(0), house.ring_of("net")], [("waits", 1), 0])
        house.ticks(2)
        self.same([house.fate(0), house.fate(3), house.ring_of("net")], [("served", 1, 1), ("served", 2, 0), None])

    def test_rings_by_steps(self):
        lines = (edge("a", 5, ("run", 2), ("ring", "b"), ("ring", "b"), ("ring", "a")), edge("b", 6, RUN))
        house = rung(house_of(1, *lines), "a")
        house.ticks(2)
        self.same(house.rings, [(0, "a"), (1, "b"), (1, "b"), (1, "a")])
        self.same([house.fate(number) for number in range(4)], [("served", 0, 0), ("waits", None), ("merged", 1), ("waits", None)])
        house.ticks(2)
        self.same([house.fate(1), house.fate(2), house.fate(3)], [("served", 2, 0), ("merged", 1), ("served", 3, 0)])

    def test_a_line_that_rings_itself_when_it_begins(self):
        house = rung(house_of(1, edge("a", 5, ("ring", "a"), RUN)), "a")
        house.tick()
        self.same([house.rings, house.fate(0), house.fate(1), house.ring_of("a")], [[(0, "a"), (0, "a")], ("served", 0, 0), ("waits", None), 1])

    def test_levels_have_none(self):
        house = rung(house_of(1, level("a", 5, RUN, ("quiet", "a"), ("ring", "a")), edge("b", 4, RUN)), "a", "a", "b")
        self.same([house.rings, house.ring_of("a"), house.ring_of("b"), house.fate(0)], [[(0, "b")], None, 0, ("waits", None)])
        house.tick()
        self.same([house.rings, house.ring_of("a")], [[(0, "b")], None])

    def test_a_place_that_is_lost(self):
        house = rung(house_of(2, edge("top", 9, ("run", 9)), edge("a", 5, RUN)), "top", "a")
        house.tick()
        self.same(house.fate(1), ("waits", 0))
        house.leave(0)
        self.same(house.fate(1), ("waits", None))
        house.tick()
        self.same(house.fate(1), ("served", 1, 1))

    def test_masked_rings_wait(self):
        house = House(usual(), 1)
        house.mask("net")
        rung(house, "net").ticks(3)
        self.same([house.fate(0), house.ring_of("net"), house.rings], [("waits", None), 0, [(0, "net")]])

    def test_numbers_of_no_ring(self):
        house = House(usual(), 2)
        self.raises(InvalidNumber, house.fate, 0)
        rung(house, "net", "net", "heat")
        for number in (2, -2, "net", (0,), *ODD_VALUES):
            self.raises(InvalidNumber, house.fate, number)
        self.same(house.fate(1), ("merged", 0))

    def test_each_ring_has_one_fate(self):
        house = house_of(2, edge("a", 5, ("run", 2)), edge("b", 5, ("run", 3), ("ring", "a")), routes=(("b", "first", (1,)),))
        for tick in range(30):
            if tick % 2:
                rung(house, "a")
            if tick % 5 == 0:
                rung(house, "b")
            house.tick()
        fates = [house.fate(number) for number in range(len(house.rings))]
        begins = [event for event in house.log if event[0] == "begin"]
        for line in "ab":
            served = [fate[1:] for fate, ring in zip(fates, house.rings) if fate[0] == "served" and ring[1] == line]
            self.same(served, [(event[1], event[3]) for event in begins if event[2] == line])
        for number, fate in enumerate(fates):
            if fate[0] == "merged":
                self.assertLess(fate[1], number)
                self.assertEqual(house.rings[fate[1]][1], house.rings[number][1])
                self.assertNotEqual(fates[fate[1]][0], "merged")


if __name__ == "__main__":
    unittest.main()
