"""Point 7: devices that ring lines in periods."""

import unittest

from callbells.devices import Devices
from callbells.errors import InvalidBell, InvalidNumber, TooMany, UnknownLine
from callbells.setups import Setup
from callbells.single import Single

from helpers import ODD_VALUES, Case, Dice, edge, letters, level, until_next, usual

RUN = ("run", 1)
FAR = 10 ** 18

# Rings by steps, levels that stay high, masks, flags, bars and works.
RINGING = Setup((
    edge("a", 3, ("run", 2), ("ring", "b"), ("ring", "b"), ("run", 1)),
    edge("b", 5, ("run", 1), ("ring", "c"), ("ring", "b")),
    level("c", 4, ("run", 3), ("ring", "c"), ("quiet", "c")),
))
FLAGGED = Setup((
    edge("wait", 2, ("clear", 1), ("run", 1), ("await", 1), ("later", "tidy"), ("run", 2)),
    edge("flag", 6, ("run", 2), ("set", 1)),
    level("high", 4, ("bar", 6), ("run", 2), ("later", "file"), ("quiet", "high")),
    edge("shut", 7, ("mask", "high"), ("run", 1), ("ring", "high")),
    edge("free", 8, ("unmask", "high")),
), (("tidy", 3, 4), ("file", 5, 2)))
PLAYED = (
    (RINGING, (("a", 0, 7), ("c", 3, 11))),
    (RINGING, (("a", 2, 9), ("b", 2, 5), ("b", 2, 10), ("c", 0, 3))),
    (FLAGGED, (("wait", 1, 13), ("flag", 6, 17), ("high", 0, 5))),
    (FLAGGED, (("shut", 4, 6), ("free", 12, 9), ("high", 0, 4), ("wait", 0, 8), ("flag", 5, 8))),
    (usual(), (("disk", 0, 4), ("net", 1, 10))),
    (usual(), (("net", 0, 2),)),
    (usual(), (("heat", 30, 6), ("disk", 0, 60))),
    (usual(), ()),
)


def ring_bells(single, bells):
    """Ring by hand what rings now; return the lines whose rings are merged."""
    merged = []
    for line, first, period in bells:
        if single.now >= first and (single.now - first) % period == 0 and single.ring(line) == "merged":
            merged.append(line)
    return merged


def played(setup, bells, count):
    """The processor rung by hand for so many ticks, all events, and the merged rings of bells."""
    single = Single(setup)
    events = []
    merged = []
    for _ in range(count):
        merged.extend((single.now, line) for line in ring_bells(single, bells))
        events.extend(single.ticks(1))
    return single, events, merged


def told(single):
    """All that is told of the state of a processor."""
    return (single.waiting, single.calls, single.queue, single.flags_up, single.bar, single.masked, single.highs)


def first_repetition(setup, bells):
    """The repetition, by comparing everything ahead of each tick."""
    single = Single(setup)
    seen = []
    while True:
        now = (told(single), [until_next(bell, single.now) for bell in bells])
        if now in seen:
            return seen.index(now), len(seen) - seen.index(now)
        seen.append(now)
        ring_bells(single, bells)
        single.tick()


class BellsTest(Case):
    def test_properties(self):
        bells = (("disk", 0, 4), ("net", 1, 10), ("disk", 0, 4))
        devices = Devices(usual(), bells)
        self.assertEqual(devices.setup, usual())
        self.same(devices.bells, bells)
        self.same(Devices(usual(), ()).bells, ())

    def test_the_greatest_and_the_least_numbers(self):
        bells = (("net", 0, 1), ("net", 10 ** 6, 60), ("heat", 10 ** 6, 1), ("disk", 0, 60))
        self.same(Devices(usual(), bells).bells, bells)

    def test_the_first_spoilt_bell(self):
        good = ("net", 0, 2)
        spoilt = (("fan", 0, 2), ("net", -1, 2), ("net", 10 ** 6 + 1, 2), ("net", 0, 0), ("net", 0, 61), ("net", 0),
                  ("net", 0, 2, 1), ["net", 0, 2], ("net", True, 2), ("net", 0, True), ("net", "0", 2), (0, "net", 2),
                  ("net", 0, None), ("flush", 0, 2), (["net"], 0, 2), (("net",), 0, 2), ("net", [0], 2), ("net", 0, 2.0))
        for bell in spoilt + ODD_VALUES:
            with self.subTest(bell=bell):
                self.raises(InvalidBell, Devices, usual(), (bell,), index=0)
                self.raises(InvalidBell, Devices, usual(), (good, good, bell, good, bell), index=2)

    def test_the_thirteenth(self):
        good = ("net", 0, 2)
        self.same(len(Devices(usual(), (good,) * 12).bells), 12)
        self.raises(InvalidBell, Devices, usual(), (good,) * 13, index=12)
        self.raises(InvalidBell, Devices, usual(), (good,) * 14, index=12)
        self.raises(InvalidBell, Devices, usual(), (good,) * 11 + (None,) + (good,) * 3, index=11)

    def test_what_is_no_tuple(self):
        for bells in (None, [("net", 0, 2)], [], "net", 5, True, {}):
            self.raises(InvalidBell, Devices, usual(), bells, index=0)


class AfterTest(Case):
    def test_tick_by_tick(self):
        for setup, bells in PLAYED:
            devices = Devices(setup, bells)
            for count in range(250):
                single, _, _ = played(setup, bells, count)
                after = devices.after(count)
                with self.subTest(bells=bells, count=count):
                    self.assertEqual(after, single)
                    self.same([told(after), after.now, after.spent], [told(single), count, single.spent])

    def test_bells_have_not_rung_yet(self):
        devices = Devices(usual(), (("net", 3, 5),))
        self.same([devices.after(3).waiting, devices.after(4).calls], [[], [("net", 0, 1)]])

    def test_bells_ring_from_their_first_tick_on(self):
        devices = Devices(usual(), (("disk", 5, 2),))
        self.same([devices.after(5).spent, devices.after(6).spent], [(0, 0, 0, 5), (1, 0, 0, 5)])

    def test_bells_of_one_line_at_one_tick(self):
        devices = Devices(usual(), (("disk", 2, 9), ("disk", 2, 9), ("disk", 2, 9)))
        self.same([devices.begins("disk", 12), devices.merged("disk", 12), devices.merged("disk", 11)], [2, 4, 2])

    def test_across_what_is_kept_of_the_course(self):
        bells = (("disk", 0, 60), ("net", 7, 59))
        for count in (99, 100, 101, 199, 200, 201, 1000, 3599, 3600, 3605):
            self.assertEqual(Devices(usual(), bells).after(count), played(usual(), bells, count)[0])

    def test_far(self):
        for setup, bells in PLAYED:
            devices = Devices(setup, bells)
            first, ticks = devices.repetition()
            near, later = played(setup, bells, first + 3)[0], played(setup, bells, first + 3 + ticks)[0]
            count = first + 3 + (FAR - first - 3) // ticks * ticks
            turns = (count - first - 3) // ticks
            far = devices.after(count)
            self.same([told(far), far.now], [told(near), count])
            self.same(far.spent, tuple(a + turns * (b - a) for a, b in zip(near.spent, later.spent)))
            self.same([sum(far.spent), devices.after(FAR).now], [count, FAR])

    def test_a_far_one_goes_on(self):
        bells = (("net", 0, 10),)
        far = Devices(usual(), bells).after(FAR)
        self.same([far.ring("net"), far.ticks(1)], ["waits", [(FAR, "begin", "net")]])
        self.same([far.now, sum(far.spent)], [FAR + 1, FAR + 1])

    def test_what_is_returned_is_the_callers(self):
        devices = Devices(usual(), (("net", 0, 10),))
        for count in (0, 3, 100, FAR):
            single = devices.after(count)
            single.ring("disk")
            single.ticks(20)
            self.same([devices.after(count).now, devices.after(count).waiting], [count, []])
            self.assertEqual(devices.after(count), devices.after(count))


class CountsTest(Case):
    def test_begins_tick_by_tick(self):
        for setup, bells in PLAYED:
            devices = Devices(setup, bells)
            _, events, _ = played(setup, bells, 250)
            for line in setup.order:
                ticks = [tick for tick, word, name in events if (word, name) == ("begin", line)]
                for count in range(251):
                    with self.subTest(bells=bells, line=line, count=count):
                        self.same(devices.begins(line, count), sum(tick < count for tick in ticks))
                for number, tick in enumerate(ticks, start=1):
                    self.same(devices.nth_begin(line, number), tick)

    def test_merged_tick_by_tick(self):
        # No step rings here, so the bells are all that is merged.
        for setup, bells in ((usual(), (("net", 0, 2), ("heat", 1, 1), ("disk", 4, 3), ("disk", 4, 6))),
                             (usual(), (("heat", 0, 1), ("disk", 2, 3), ("net", 40, 7)))):
            devices = Devices(setup, bells)
            _, _, merged = played(setup, bells, 250)
            for line in setup.order:
                for count in range(251):
                    self.same(devices.merged(line, count), sum(tick < count for tick, name in merged if name == line))

    def test_merged_by_steps(self):
        setup = Setup((edge("a", 1, ("run", 2), ("ring", "b"), ("ring", "b"), RUN, ("ring", "b")), edge("b", 1, RUN)))
        devices = Devices(setup, (("a", 0, 10),))
        # In tick 1 the second ring of b is merged, in tick 2 another one; the call of a ends there.
        self.same([devices.merged("b", count) for count in range(5)], [0, 0, 1, 2, 2])
        self.same([devices.merged("b", 11), devices.merged("b", 12), devices.merged("b", FAR)], [2, 3, FAR // 5])
        self.same([devices.merged("a", FAR), devices.begins("b", FAR)], [0, FAR // 10])

    def test_merged_by_the_own_step(self):
        setup = Setup((edge("a", 1, RUN, ("ring", "a"), ("ring", "a"), RUN),))
        devices = Devices(setup, (("a", 4, 60),))
        # From tick 4 on it begins again every two ticks; the bell finds it waiting from tick 64 on.
        self.same([devices.merged("a", count) for count in (4, 5, 6, 7, 64, 65)], [0, 1, 1, 2, 30, 32])

    def test_merged_levels(self):
        setup = Setup((level("a", 1, RUN, ("ring", "a"), ("run", 2), ("quiet", "a")), edge("b", 2, ("ring", "a"))))
        devices = Devices(setup, (("a", 0, 10), ("a", 2, 10), ("b", 1, 10)))
        # In tick 0 by its own step, in tick 1 by b, ahead of tick 2 by the bell.
        self.same([devices.merged("a", count) for count in (0, 1, 2, 3, 10, 11)], [0, 1, 2, 3, 3, 4])

    def test_a_bell_ahead_of_the_tick_with_the_number(self):
        devices = Devices(usual(), (("net", 5, 60), ("net", 5, 60)))
        self.same([devices.merged("net", 5), devices.merged("net", 6)], [0, 1])
        self.same([devices.begins("net", 5), devices.begins("net", 6)], [0, 1])

    def test_none_and_the_greatest(self):
        devices = Devices(usual(), (("disk", 0, 4), ("net", 1, 10)))
        self.same([devices.begins("net", 0), devices.merged("net", 0)], [0, 0])
        self.same([devices.begins("net", FAR), devices.merged("net", FAR)], [FAR // 10, 0])
        self.same([devices.begins("disk", FAR), devices.begins("heat", FAR)], [FAR // 4, 0])
        dense = Devices(usual(), (("net", 0, 2),))
        self.same([dense.merged("net", 0), dense.merged("net", FAR)], [0, FAR // 6])

    def test_far_stretches_add_up(self):
        for setup, bells in PLAYED:
            devices = Devices(setup, bells)
            first, ticks = devices.repetition()
            near = first + 5
            far = near + (10 ** 17 // ticks) * ticks
            for line in setup.order:
                for ask in (devices.begins, devices.merged):
                    for more in (0, 1, 2, ticks - 1, ticks, 3 * ticks + 2, 77):
                        self.same(ask(line, far + more) - ask(line, far), ask(line, near + more) - ask(line, near))
                    in_one = ask(line, near + ticks) - ask(line, near)
                    self.same(ask(line, far) - ask(line, near), 10 ** 17 // ticks * in_one)

    def test_nth_begin_and_begins(self):
        asked = 0
        for setup, bells in PLAYED:
            devices = Devices(setup, bells)
            for line in setup.order:
                for number in (1, 2, 3, 10, 11, 1000, 12345, 10 ** 12 + 7, 10 ** 15):
                    tick = devices.nth_begin(line, number)
                    if tick is None:
                        self.assertLess(devices.begins(line, FAR), number)
                    else:
                        self.same([devices.begins(line, tick), devices.begins(line, tick + 1)], [number - 1, number])
                        asked += 1
        self.assertGreater(asked, 100)

    def test_no_such_begin(self):
        setup = Setup((edge("stuck", 2, ("ring", "once"), ("await", 0)), edge("once", 5, RUN), edge("never", 3, RUN)))
        devices = Devices(setup, (("stuck", 3, 7),))
        self.same([devices.nth_begin("stuck", 1), devices.nth_begin("stuck", 2)], [3, None])
        self.same([devices.nth_begin("once", 1), devices.nth_begin("once", 2), devices.nth_begin("once", FAR)],
                  [4, None, None])
        self.same([devices.nth_begin("never", 1), devices.begins("once", FAR)], [None, 1])
        # Its rings wait: one is left, all others are merged.
        self.same(devices.merged("stuck", 3 + 7 * 100), 98)

    def test_begins_behind_the_greatest_number(self):
        devices = Devices(usual(), (("disk", 0, 4), ("net", 1, 10)))
        self.same([devices.nth_begin("disk", FAR), devices.nth_begin("net", FAR)], [4 * FAR - 4, 10 * FAR - 9])


class NumbersTest(Case):
    def test_numbers_out_of_range(self):
        devices = Devices(usual(), (("disk", 0, 4),))
        for count in (-1, FAR + 1, True, False, None, "5", 5.0, [5], (5,), ""):
            self.raises(InvalidNumber, devices.after, count)
            self.raises(InvalidNumber, devices.begins, "disk", count)
            self.raises(InvalidNumber, devices.merged, "disk", count)
            self.raises(InvalidNumber, devices.nth_begin, "disk", count)
        self.raises(InvalidNumber, devices.nth_begin, "disk", 0)

    def test_unknown_lines_first(self):
        devices = Devices(usual(), (("disk", 0, 4),))
        for line in ODD_VALUES + ("fan", "flush"):
            for number in (1, 0, -1, True, None):
                self.raises(UnknownLine, devices.begins, line, number, line=line)
                self.raises(UnknownLine, devices.merged, line, number, line=line)
                self.raises(UnknownLine, devices.nth_begin, line, number, line=line)


class RepetitionTest(Case):
    def test_against_everything_ahead_of_each_tick(self):
        for setup, bells in PLAYED:
            with self.subTest(bells=bells):
                self.same(Devices(setup, bells).repetition(), first_repetition(setup, bells))

    def test_thrown_devices(self):
        dice = Dice(7)
        for _ in range(60):
            setup = dice.one_of((RINGING, FLAGGED, usual()))
            bells = tuple((dice.one_of(setup.order), dice.below(9), dice.one_of((1, 2, 3, 4, 6, 12)))
                          for _ in range(dice.below(4)))
            with self.subTest(bells=bells):
                self.same(Devices(setup, bells).repetition(), first_repetition(setup, bells))

    def test_the_smallest_pair(self):
        setup = Setup((edge("a", 1, RUN),))
        self.same(Devices(setup, ()).repetition(), (0, 1))
        self.same(Devices(setup, (("a", 0, 60),)).repetition(), (0, 60))
        self.same(Devices(setup, (("a", 5, 10),)).repetition(), (0, 10))
        self.same(Devices(setup, (("a", 9, 10),)).repetition(), (0, 10))
        self.same(Devices(setup, (("a", 10, 10),)).repetition(), (1, 10))
        self.same(Devices(setup, (("a", 100, 10), ("a", 0, 4))).repetition(), (91, 20))

    def test_too_many(self):
        setup = Setup((edge("a", 1, RUN),))
        self.same(Devices(setup, (("a", 19999, 1),)).repetition(), (19999, 1))
        self.same(Devices(setup, (("a", 19999, 60),)).repetition(), (19940, 60))
        for bells in ((("a", 20000, 1),), (("a", 20000, 60),), (("a", 10 ** 6, 7),),
                      (("a", 0, 59), ("a", 0, 60), ("a", 0, 7))):
            devices = Devices(setup, bells)
            self.raises(TooMany, devices.repetition)
            self.raises(TooMany, devices.share)
            self.raises(TooMany, devices.after, 0)
            self.raises(TooMany, devices.begins, "a", 0)
            self.raises(TooMany, devices.merged, "a", FAR)
            self.raises(TooMany, devices.nth_begin, "a", 1)

    def test_the_greatest_repetition_to_its_end(self):
        setup = Setup((edge("a", 1, RUN),))
        devices = Devices(setup, (("a", 19940, 1), ("a", 0, 60)))
        self.same(devices.repetition(), (19940, 60))
        self.same([devices.begins("a", 19999), devices.begins("a", 20000), devices.begins("a", 20060)],
                  [333 + 59, 333 + 60, 333 + 120])
        self.same([devices.after(19999).spent, devices.after(20001).spent], [(392, 0, 0, 19607), (394, 0, 0, 19607)])

    def test_too_many_behind_all_else(self):
        devices = Devices(usual(), (("net", 30000, 1),))
        for number in (-1, FAR + 1, True):
            self.raises(InvalidNumber, devices.after, number)
            self.raises(InvalidNumber, devices.begins, "net", number)
            self.raises(InvalidNumber, devices.merged, "net", number)
            self.raises(InvalidNumber, devices.nth_begin, "net", number)
            self.raises(UnknownLine, devices.begins, "fan", number, line="fan")
            self.raises(UnknownLine, devices.merged, "fan", number, line="fan")
            self.raises(UnknownLine, devices.nth_begin, "fan", number, line="fan")
        self.raises(UnknownLine, devices.begins, "fan", 1, line="fan")
        self.same([devices.bells, devices.setup == usual()], [(("net", 30000, 1),), True])

    def test_twelve_lines_that_ring(self):
        lines = tuple(edge(name, 1 + at % 9, ("run", 1 + at % 3)) for at, name in enumerate(letters(12)))
        bells = tuple((name, at, 12 + at % 2 * 12) for at, name in enumerate(letters(12)))
        devices = Devices(Setup(lines), bells)
        self.same(devices.repetition(), first_repetition(Setup(lines), bells))
        _, events, _ = played(Setup(lines), bells, 100)
        for name in letters(12):
            self.same(devices.begins(name, 100), sum(event[1:] == ("begin", name) for event in events))


class ShareTest(Case):
    def test_lowest_terms(self):
        one = Setup((edge("a", 1, ("run", 6)),))
        self.same(Devices(one, (("a", 0, 60),)).share(), ((9, 10), (0, 1)))
        self.same(Devices(one, (("a", 0, 10),)).share(), ((2, 5), (0, 1)))
        self.same(Devices(one, (("a", 0, 6),)).share(), ((0, 1), (0, 1)))
        self.same(Devices(one, ()).share(), ((1, 1), (0, 1)))

    def test_spun_ticks(self):
        setup = Setup((edge("a", 1, ("clear", 0), ("await", 0), RUN), edge("b", 2, ("set", 0))))
        # In ticks 0 to 5 it spins, in tick 6 it runs, from 7 to 19 nothing goes on.
        devices = Devices(setup, (("a", 0, 20), ("b", 6, 20)))
        self.same(devices.share(), ((13, 20), (3, 10)))
        self.same(devices.after(20).spent, (1, 6, 0, 13))
        self.same(Devices(setup, (("a", 5, 20),)).share(), ((0, 1), (1, 1)))

    def test_in_the_long_run_only(self):
        devices = Devices(usual(), (("net", 1000, 3),))
        self.same(devices.share(), ((0, 1), (0, 1)))

    def test_against_far_spent_ticks(self):
        for setup, bells in PLAYED:
            devices = Devices(setup, bells)
            first, ticks = devices.repetition()
            early, late = devices.after(first + 7).spent, devices.after(first + 7 + 1000 * ticks).spent
            for (top, bottom), at in zip(devices.share(), (3, 1)):
                self.same(top * 1000 * ticks, (late[at] - early[at]) * bottom)

    def test_repeated_calls(self):
        devices = Devices(usual(), (("disk", 0, 4), ("net", 1, 10)))
        def ask():
            return [devices.repetition(), devices.share(), devices.begins("net", 99), devices.nth_begin("net", 9),
                    devices.merged("net", 99), told(devices.after(33)), devices.after(33).spent]
        self.same(ask(), ask())


if __name__ == "__main__":
    unittest.main()
