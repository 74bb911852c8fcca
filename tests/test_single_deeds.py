"""Point 6: deeds between ticks, what is shown, copies and equality; and point 1."""

import unittest

from callbells.errors import InvalidFlag, InvalidNumber, NotLevel, UnknownLine
from callbells.setups import Setup
from callbells.single import Single

from helpers import Case, FLUSH, HEAT, NET, ODD_VALUES, edge, level, single_of, usual

RUN = ("run", 1)
STRANGERS = ("fan", "Net", "net ", "flush", 0, 7) + ODD_VALUES
PROPERTIES = ("now", "waiting", "calls", "queue", "flags_up", "bar", "masked", "highs", "spent")


def shown(single):
    """All that the properties tell."""
    return {name: getattr(single, name) for name in PROPERTIES}


def busy():
    """A processor that has something of everything."""
    lines = (
        edge("a", 1, ("bar", 2), ("later", "w"), ("later", "v"), ("run", 5)),
        edge("b", 4, ("set", 6), ("set", 1), ("await", 3), RUN),
        level("c", 6, RUN),
        level("d", 2, RUN),
        edge("e", 2, RUN),
        edge("f", 8, ("later", "v")),
    )
    single = single_of(*lines, works=(("w", 1, 9), ("v", 3, 2)))
    single.ring("f")
    single.tick()
    single.ring("a")
    single.ticks(2)
    single.ring("b")
    single.ticks(3)
    for line in ("d", "e", "b"):
        single.ring(line)
    for line in ("e", "c"):
        single.mask(line)
    single.ring("c")
    return single


BUSY = {
    "now": 6,
    "waiting": ["c", "b", "d", "e"],
    "calls": [("a", 3, 2), ("b", 2, 0)],
    "queue": [("v", 1), ("v", 0), ("w", 0)],
    "flags_up": [1, 6],
    "bar": 2,
    "masked": ["c", "e"],
    "highs": ["c", "d"],
    "spent": (2, 3, 1, 0),
}


class DeedsTest(Case):
    def test_ring_an_edge(self):
        single = Single(usual())
        self.same([single.ring("net"), single.ring("net"), single.ring("disk")], ["waits", "merged", "waits"])
        single.ticks(3)
        self.same([single.calls, single.waiting], [[("net", 0, 1)], []])
        self.same([single.ring("net"), single.ring("net"), single.waiting], ["waits", "merged", ["net"]])

    def test_ring_a_level(self):
        single = single_of(level("a", 1, ("run", 2)))
        self.same([single.ring("a"), single.ring("a")], ["waits", "merged"])
        single.tick()
        self.same([single.ring("a"), single.waiting, single.highs], ["merged", [], ["a"]])
        self.same([single.quiet("a"), single.ring("a"), single.waiting, single.highs], [True, "waits", [], ["a"]])

    def test_ring_a_disabled_line(self):
        single = Single(usual())
        single.mask("net")
        self.same([single.ring("net"), single.ring("net"), single.waiting], ["waits", "merged", ["net"]])

    def test_quiet(self):
        single = single_of(level("a", 1, ("run", 2)))
        self.same([single.quiet("a"), single.ring("a"), single.quiet("a"), single.quiet("a")], [False, "waits", True, False])
        self.same([single.highs, single.waiting], [[], []])

    def test_quiet_an_edge(self):
        single = Single(usual())
        self.raises(NotLevel, single.quiet, "net", line="net")
        single.ring("disk")
        self.raises(NotLevel, single.quiet, "disk", line="disk")
        self.same(single.waiting, ["disk"])

    def test_mask_and_unmask(self):
        single = Single(usual())
        for line in ("net", "disk", "heat"):
            self.same([single.unmask(line), single.mask(line), single.mask(line), single.masked], [False, True, False, [line]])
            self.same([single.unmask(line), single.unmask(line), single.masked], [True, False, []])

    def test_flags(self):
        single = Single(usual())
        for flag in range(8):
            self.same([single.clear_flag(flag), single.set_flag(flag), single.set_flag(flag)], [False, True, False])
            self.same([single.flags_up, single.clear_flag(flag), single.clear_flag(flag)], [[flag], True, False])
            self.same(single.flags_up, [])

    def test_they_act_at_once_and_spend_no_tick(self):
        single = Single(usual())
        single.ring("heat")
        single.mask("net")
        single.set_flag(5)
        self.same([single.highs, single.masked, single.flags_up, single.now], [["heat"], ["net"], [5], 0])
        self.same(single.spent, (0, 0, 0, 0))


class DeedErrorsTest(Case):
    def unchanged(self, single, error, call, argument, **told):
        before = single.copied()
        with self.subTest(argument=argument):
            self.raises(error, call, argument, **told)
            self.same(shown(single), shown(before))
            self.same(single == before, True)

    def test_unknown_lines(self):
        single = busy()
        for line in STRANGERS:
            for call in (single.ring, single.quiet, single.mask, single.unmask):
                self.unchanged(single, UnknownLine, call, line, line=line)

    def test_not_levels(self):
        single = busy()
        for line in ("a", "b", "e", "f"):
            self.unchanged(single, NotLevel, single.quiet, line, line=line)

    def test_wrong_flags(self):
        single = busy()
        for flag in (8, 9, 255, "net", "0") + ODD_VALUES:
            for call in (single.set_flag, single.clear_flag):
                self.unchanged(single, InvalidFlag, call, flag)

    def test_wrong_counts(self):
        single = busy()
        for count in (10001, 10002, 10 ** 18, -2, "net") + ODD_VALUES:
            self.unchanged(single, InvalidNumber, single.ticks, count)


class TicksTest(Case):
    def test_none(self):
        single = busy()
        before = single.copied()
        self.same([single.ticks(0), single == before], [[], True])

    def test_the_most(self):
        single = Single(usual())
        single.ring("heat")
        self.same(single.ticks(10000), [(0, "begin", "heat"), (0, "end", "heat")])
        self.same([single.now, single.spent], [10000, (1, 0, 0, 9999)])
        self.same([single.ticks(10000), single.now], [[], 20000])

    def test_the_most_events(self):
        single = single_of(level("a", 1, RUN))
        single.ring("a")
        events = single.ticks(10000)
        self.same(len(events), 20000)
        self.same(events[-2:], [(9999, "begin", "a"), (9999, "end", "a")])

    def test_ticks_are_so_many_times_tick(self):
        one = busy()
        other = busy()
        for single in (one, other):
            single.set_flag(3)
            single.unmask("c")
        events = []
        for _ in range(40):
            now = other.now
            events = events + [(now, *event) for event in other.tick()]
        self.same(one.ticks(40), events)
        self.same([one == other, shown(one) == shown(other)], [True, True])
        self.assertGreater(len(events), 10)

    def test_the_numbers_go_on(self):
        single = Single(usual())
        single.ticks(7)
        single.ring("disk")
        self.same([single.ticks(1), single.ticks(1), single.now], [[(7, "begin", "disk")], [(8, "end", "disk")], 9])


class ShownTest(Case):
    def test_all_at_once(self):
        self.same(shown(busy()), BUSY)

    def test_properties(self):
        for name in PROPERTIES:
            self.assertIsInstance(Single.__dict__[name], property)

    def test_waiting_in_order(self):
        lines = [edge("b", 3, RUN), level("a", 3, RUN), edge("z", 9, RUN), level("y", 1, RUN), edge("x", 1, RUN)]
        single = single_of(*lines)
        for line in ("y", "x", "b", "z", "a"):
            single.ring(line)
        self.same([single.waiting, single.highs], [["z", "a", "b", "x", "y"], ["a", "y"]])
        for line in ("y", "z", "b"):
            single.mask(line)
        self.same([single.waiting, single.masked], [["z", "a", "b", "x", "y"], ["z", "b", "y"]])

    def test_flags_up_ascending(self):
        single = Single(usual())
        for flag in (7, 0, 5, 3):
            single.set_flag(flag)
        self.same(single.flags_up, [0, 3, 5, 7])

    def test_ahead_of_and_behind_ticks(self):
        single = Single(usual())
        single.ring("net")
        told = []
        for _ in range(8):
            told.append((single.now, single.waiting, single.calls, single.queue, single.spent))
            single.tick()
        self.same(told[0], (0, ["net"], [], [], (0, 0, 0, 0)))
        self.same(told[1], (1, [], [("net", 0, 1)], [], (1, 0, 0, 0)))
        self.same(told[2], (2, [], [("net", 0, 2)], [], (2, 0, 0, 0)))
        self.same(told[3], (3, [], [], [("flush", 0)], (3, 0, 0, 0)))
        self.same(told[4], (4, [], [], [("flush", 1)], (3, 0, 1, 0)))
        self.same(told[6], (6, [], [], [("flush", 3)], (3, 0, 3, 0)))
        self.same(told[7], (7, [], [], [], (3, 0, 4, 0)))
        self.same([single.now, single.spent], [8, (3, 0, 4, 1)])

    def test_returned_lists_are_the_caller_s_own(self):
        single = busy()
        before = single.copied()
        for name in ("waiting", "calls", "queue", "flags_up", "masked", "highs"):
            getattr(single, name).append("mine")
            getattr(single, name).clear()
            self.same(getattr(single, name), BUSY[name])
        events = single.copied().ticks(3)
        single.tick().append(("begin", "a"))
        single.ticks(2).clear()
        self.same(events, before.ticks(3))
        self.same(single == before, True)

    def test_told_twice_is_told_the_same(self):
        single = busy()
        self.same([shown(single), shown(single)], [BUSY, BUSY])


class CopiesTest(Case):
    DEEDS = (
        lambda single: single.ring("a"),
        lambda single: single.quiet("c"),
        lambda single: single.mask("a"),
        lambda single: single.unmask("e"),
        lambda single: single.set_flag(0),
        lambda single: single.clear_flag(6),
        lambda single: single.tick(),
        lambda single: single.ticks(30),
    )

    def test_a_copy_is_the_same(self):
        single = busy()
        other = single.copied()
        self.assertIsInstance(other, Single)
        self.assertIsNot(other, single)
        self.same([shown(other), other == single, single == other, other != single], [BUSY, True, True, False])

    def test_a_copy_goes_on_as_the_first_one(self):
        single = busy()
        other = single.copied()
        for one in (single, other):
            one.set_flag(3)
            one.unmask("c")
        self.same(single.ticks(50), other.ticks(50))
        self.same([shown(single) == shown(other), single == other], [True, True])

    def test_copies_go_on_apart(self):
        for deed in self.DEEDS:
            single = busy()
            other = single.copied()
            deed(other)
            self.same([shown(single), single == busy()], [BUSY, True])
            self.same([other == single, single == other, other != single], [False, False, True])
            other = single.copied()
            deed(single)
            self.same([shown(other), other == busy()], [BUSY, True])

    def test_copies_of_calls_go_on_apart(self):
        for is_first in (True, False):
            single = single_of(edge("a", 1, ("run", 4)), level("b", 2, ("run", 2)))
            single.ring("a")
            single.tick()
            single.ring("b")
            single.tick()
            copied = single.copied()
            one, other = (single, copied) if is_first else (copied, single)
            self.same([one.ticks(1), one.calls, one.waiting], [[(2, "end", "b")], [("a", 0, 1)], ["b"]])
            self.same([other.calls, other.waiting, other.now], [[("a", 0, 1), ("b", 0, 1)], [], 2])
            other.quiet("b")
            self.same(one.ticks(2), [(3, "begin", "b"), (4, "end", "b")])
            self.same([other.ticks(4), other.calls], [[(2, "end", "b"), (5, "end", "a")], []])
            self.same([one.calls, one.spent], [[("a", 0, 1)], (5, 0, 0, 0)])

    def test_copies_of_calls_that_end_apart(self):
        single = single_of(edge("a", 1, ("bar", 3), ("run", 2)), edge("b", 2, RUN))
        single.ring("a")
        single.tick()
        other = single.copied()
        self.same([single.ticks(1), single.calls, single.bar], [[(1, "end", "a")], [], 0])
        self.same([other.calls, other.bar, other.ring("b")], [[("a", 1, 1)], 3, "waits"])
        self.same([other.ticks(2), other.calls], [[(1, "end", "a"), (2, "begin", "b"), (2, "end", "b")], []])
        self.same(single.ticks(2), [])

    def test_copies_of_works_go_on_apart(self):
        single = Single(usual())
        single.ring("net")
        single.ticks(4)
        other = single.copied()
        other.ticks(2)
        self.same([single.queue, other.queue], [[("flush", 1)], [("flush", 3)]])
        single.ring("net")
        single.ticks(3)
        self.same([single.queue, other.queue], [[("flush", 1), ("flush", 0)], [("flush", 3)]])

    def test_two_of_one_set_up_are_apart(self):
        setup = usual()
        one = Single(setup)
        other = Single(setup)
        self.same(one == other, True)
        one.ring("net")
        self.same([one.waiting, other.waiting, one == other, setup == usual()], [["net"], [], False, True])


class EqualityTest(Case):
    def two(self):
        lines = (edge("a", 1, ("run", 5)), level("b", 2, ("run", 2)), edge("c", 3, ("await", 0), RUN), edge("d", 4, ("later", "w")))
        works = (("w", 1, 5), ("v", 1, 5))
        return single_of(*lines, works=works), single_of(*lines, works=works)

    def differ(self, one, other):
        self.same([one == other, other == one, one != other], [False, False, True])

    def agree(self, one, other):
        self.same([one == other, other == one, one != other], [True, True, False])

    def test_the_same_in_another_way(self):
        one, other = self.two()
        one.ring("a")
        one.ring("b")
        one.mask("c")
        one.set_flag(3)
        other.set_flag(3)
        other.mask("a")
        other.mask("c")
        other.unmask("a")
        for line in ("b", "a", "a"):
            other.ring(line)
        self.agree(one, other)
        self.same(one.ticks(9), other.ticks(9))
        self.agree(one, other)

    def test_lines(self):
        for line in ("a", "b", "c", "d"):
            one, other = self.two()
            one.ring(line)
            self.differ(one, other)
            one, other = self.two()
            one.mask(line)
            self.differ(one, other)

    def test_a_level_that_has_a_call(self):
        one, other = self.two()
        for single in (one, other):
            single.ring("b")
            single.tick()
        one.quiet("b")
        self.same(one.waiting == other.waiting, True)
        self.differ(one, other)

    def test_flags(self):
        for flag in range(8):
            one, other = self.two()
            one.set_flag(flag)
            self.differ(one, other)
            other.set_flag(flag)
            self.agree(one, other)

    def test_now(self):
        one, other = self.two()
        one.tick()
        self.differ(one, other)

    def test_spent(self):
        one, other = self.two()
        one.ring("a")
        one.ticks(7)
        other.ticks(7)
        self.same([one.now, one.calls, one.queue], [other.now, other.calls, other.queue])
        self.differ(one, other)
        # As many ticks of the same kinds, in another order.
        other.ring("a")
        other.ticks(5)
        one.ticks(5)
        self.agree(one, other)

    def test_calls(self):
        lines = (edge("a", 1, ("run", 3)), edge("b", 1, ("run", 3)))
        one, other = single_of(*lines), single_of(*lines)
        one.ring("a")
        other.ring("b")
        one.tick()
        other.tick()
        self.same([one.now, one.spent], [other.now, other.spent])
        self.differ(one, other)

    def test_steps_and_ticks_of_calls(self):
        lines = (edge("a", 1, ("run", 3), ("await", 7)), edge("b", 9, ("run", 2)))
        one, other = single_of(*lines), single_of(*lines)
        one.ring("a")
        one.ticks(2)
        one.ring("b")
        one.ticks(3)
        other.ring("b")
        other.ticks(2)
        other.ring("a")
        other.ticks(3)
        self.same([one.calls, one.spent], [other.calls, other.spent])
        self.agree(one, other)
        one.ring("b")
        one.tick()
        other.tick()
        self.same([one.now, one.spent == other.spent], [other.now, False])
        self.differ(one, other)

    def test_works(self):
        lines = (edge("a", 1, ("later", "v")), edge("b", 1, ("later", "w")), edge("c", 9, ("run", 1)))
        works = (("w", 1, 5), ("v", 1, 5))
        one, other = single_of(*lines, works=works), single_of(*lines, works=works)
        one.ring("a")
        one.tick()
        other.ring("b")
        other.tick()
        self.same([one.now, one.spent], [other.now, other.spent])
        self.differ(one, other)
        one.ring("b")
        one.tick()
        other.ring("a")
        other.tick()
        self.same([one.queue, other.queue], [[("v", 2), ("w", 0)], [("w", 2), ("v", 0)]])
        self.differ(one, other)

    def test_bars(self):
        # The handlers are the same but for the bar, so the set-ups are not.
        one = single_of(edge("a", 1, ("bar", 3), ("run", 2)))
        other = single_of(edge("a", 1, ("bar", 4), ("run", 2)))
        for single in (one, other):
            single.ring("a")
            single.tick()
        self.same([one.bar, other.bar, one.calls == other.calls], [3, 4, True])
        self.differ(one, other)

    def test_set_ups(self):
        self.differ(Single(Setup((NET, HEAT), (FLUSH,))), Single(Setup((HEAT, NET), (FLUSH,))))
        self.differ(Single(usual()), Single(usual() - "heat"))
        self.differ(Single(usual()), Single(usual().with_rank("net", 6)))
        self.agree(Single(usual()), Single(usual()))

    def test_nothing_else_is_equal(self):
        single = Single(usual())
        for other in (None, 0, True, "net", [], (), usual(), shown(single), single.calls):
            self.differ(single, other)


if __name__ == "__main__":
    unittest.main()
