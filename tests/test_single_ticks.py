"""Points 4 and 5: what lines, calls, works and ticks of one processor do."""

import unittest

from callbells.single import Single

from helpers import Case, edge, level, rung, single_of, usual

RUN = ("run", 1)


class BeginTest(Case):
    def test_at_first(self):
        single = Single(usual())
        self.same([single.now, single.waiting, single.calls, single.queue], [0, [], [], []])
        self.same([single.flags_up, single.bar, single.masked, single.highs], [[], 0, [], []])
        self.same(single.spent, (0, 0, 0, 0))

    def test_nothing_rings(self):
        single = Single(usual())
        self.same(single.ticks(5), [])
        self.same([single.now, single.spent, single.calls], [5, (0, 0, 0, 5), []])

    def test_a_call_from_begin_to_end(self):
        single = rung(Single(usual()), "net")
        self.same([single.waiting, single.calls], [["net"], []])
        self.same([single.tick(), single.waiting, single.calls], [[("begin", "net")], [], [("net", 0, 1)]])
        self.same([single.tick(), single.calls], [[], [("net", 0, 2)]])
        self.same([single.tick(), single.calls, single.queue], [[("end", "net")], [], [("flush", 0)]])
        self.same([single.now, single.spent], [3, (3, 0, 0, 0)])

    def test_the_first_in_order_begins(self):
        lines = [edge("b", 4, RUN), edge("low", 3, RUN), level("a", 4, RUN, ("quiet", "a")), edge("top", 9, RUN)]
        single = rung(single_of(*lines), "low", "b", "a", "top")
        self.same(single.waiting, ["top", "a", "b", "low"])
        events = [single.tick()[0] for _ in range(4)]
        self.same(events, [("begin", "top"), ("begin", "a"), ("begin", "b"), ("begin", "low")])

    def test_one_line_a_tick(self):
        single = rung(single_of(edge("a", 1, ("run", 5)), edge("b", 2, ("run", 5)), edge("c", 3, ("run", 5))), "a")
        self.same(single.tick(), [("begin", "a")])
        rung(single, "b")
        self.same(single.tick(), [("begin", "b")])
        rung(single, "c")
        self.same(single.tick(), [("begin", "c")])
        self.same(single.calls, [("a", 0, 1), ("b", 0, 1), ("c", 0, 1)])

    def test_only_a_greater_rank_calls_away(self):
        single = rung(single_of(edge("b", 4, ("run", 3)), edge("a", 4, RUN), edge("low", 3, RUN), edge("top", 5, RUN)), "b")
        single.tick()
        rung(single, "a", "low")
        self.same([single.tick(), single.calls], [[], [("b", 0, 2)]])
        rung(single, "top")
        self.same(single.tick(), [("begin", "top"), ("end", "top")])
        self.same(single.ticks(3), [(3, "end", "b"), (4, "begin", "a"), (4, "end", "a"), (5, "begin", "low"), (5, "end", "low")])

    def test_the_call_beneath_goes_on_where_it_was(self):
        single = rung(single_of(edge("a", 1, ("run", 2), ("run", 3)), edge("b", 2, ("run", 2))), "a")
        single.ticks(3)
        self.same(single.calls, [("a", 1, 1)])
        rung(single, "b")
        self.same([single.ticks(1), single.calls], [[(3, "begin", "b")], [("a", 1, 1), ("b", 0, 1)]])
        self.same([single.ticks(1), single.calls], [[(4, "end", "b")], [("a", 1, 1)]])
        self.same([single.ticks(1), single.calls], [[], [("a", 1, 2)]])
        self.same([single.ticks(1), single.spent], [[(6, "end", "a")], (7, 0, 0, 0)])

    def test_the_greatest_numbers_of_ticks(self):
        single = rung(single_of(edge("a", 1, ("run", 99), RUN)), "a")
        self.same(single.ticks(99), [(0, "begin", "a")])
        self.same([single.calls, single.tick()], [[("a", 1, 0)], [("end", "a")]])


class RingTest(Case):
    def test_an_edge_waits_for_its_next_call(self):
        single = rung(single_of(edge("a", 1, ("run", 2))), "a")
        single.tick()
        self.same([single.ring("a"), single.waiting, single.calls], ["waits", ["a"], [("a", 0, 1)]])
        self.same([single.ring("a"), single.waiting], ["merged", ["a"]])
        self.same(single.ticks(5), [(1, "end", "a"), (2, "begin", "a"), (3, "end", "a")])

    def test_merged_rings_are_one(self):
        single = rung(single_of(edge("a", 1, RUN)), "a", "a", "a")
        self.same(single.ticks(3), [(0, "begin", "a"), (0, "end", "a")])

    def test_an_edge_waits_as_long_as_it_takes(self):
        single = rung(single_of(edge("a", 1, RUN), edge("b", 2, ("run", 50))), "b", "a")
        self.same(single.ticks(50), [(0, "begin", "b"), (49, "end", "b")])
        self.same([single.waiting, single.ticks(2)], [["a"], [(50, "begin", "a"), (50, "end", "a")]])

    def test_a_level_that_stays_high_begins_again(self):
        single = rung(single_of(level("a", 1, ("run", 2))), "a")
        self.same([single.waiting, single.highs], [["a"], ["a"]])
        self.same(single.ticks(5), [(0, "begin", "a"), (1, "end", "a"), (2, "begin", "a"), (3, "end", "a"), (4, "begin", "a")])
        self.same([single.waiting, single.highs, single.calls], [[], ["a"], [("a", 0, 1)]])

    def test_a_level_that_stays_high_and_takes_no_tick(self):
        single = rung(single_of(level("a", 1, ("set", 1))), "a")
        self.same(single.ticks(2), [(0, "begin", "a"), (0, "end", "a"), (1, "begin", "a"), (1, "end", "a")])
        self.same([single.waiting, single.spent], [["a"], (0, 0, 0, 2)])

    def test_a_level_made_quiet_does_not_wait(self):
        single = rung(single_of(level("a", 1, ("run", 2))), "a")
        single.quiet("a")
        self.same([single.waiting, single.highs, single.ticks(2)], [[], [], []])

    def test_a_level_made_quiet_in_its_call(self):
        single = rung(single_of(level("a", 1, ("run", 3))), "a")
        single.tick()
        single.quiet("a")
        self.same([single.highs, single.calls], [[], [("a", 0, 1)]])
        self.same(single.ticks(4), [(2, "end", "a")])

    def test_a_level_rings_again_in_its_call(self):
        single = rung(single_of(level("a", 1, ("quiet", "a"), ("run", 2))), "a")
        single.tick()
        self.same([single.highs, single.ring("a"), single.highs, single.waiting], [[], "waits", ["a"], []])
        self.same(single.ticks(4), [(1, "end", "a"), (2, "begin", "a"), (3, "end", "a")])

    def test_a_step_rings_a_greater_line(self):
        single = rung(single_of(edge("a", 1, ("ring", "b"), ("run", 3)), edge("b", 2, RUN)), "a")
        self.same([single.tick(), single.waiting], [[("begin", "a")], ["b"]])
        self.same(single.ticks(3), [(1, "begin", "b"), (1, "end", "b"), (3, "end", "a")])

    def test_a_step_behind_a_run_rings(self):
        single = rung(single_of(edge("a", 5, RUN, ("ring", "b")), level("b", 2, RUN)), "a")
        self.same([single.tick(), single.highs], [[("begin", "a"), ("end", "a")], ["b"]])
        self.same(single.ticks(2), [(1, "begin", "b"), (1, "end", "b"), (2, "begin", "b"), (2, "end", "b")])

    def test_a_line_rings_itself(self):
        single = rung(single_of(edge("a", 1, ("ring", "a"), ("run", 2))), "a")
        self.same([single.tick(), single.waiting], [[("begin", "a")], ["a"]])
        self.same(single.ticks(3), [(1, "end", "a"), (2, "begin", "a"), (3, "end", "a")])

    def test_a_ring_by_a_step_is_merged_too(self):
        single = rung(single_of(edge("a", 9, ("ring", "b"), ("ring", "b")), edge("b", 1, RUN)), "b", "a")
        self.same(single.ticks(4), [(0, "begin", "a"), (0, "end", "a"), (1, "begin", "b"), (1, "end", "b")])

    def test_a_step_makes_a_level_quiet(self):
        single = rung(single_of(edge("a", 9, RUN, ("quiet", "b")), level("b", 1, RUN)), "b", "a")
        self.same([single.ticks(3), single.highs], [[(0, "begin", "a"), (0, "end", "a")], []])


class MaskTest(Case):
    def test_a_disabled_line_waits(self):
        single = single_of(edge("a", 9, RUN), edge("b", 1, RUN))
        single.mask("a")
        rung(single, "a", "b")
        self.same(single.ticks(3), [(0, "begin", "b"), (0, "end", "b")])
        self.same([single.waiting, single.masked], [["a"], ["a"]])
        single.unmask("a")
        self.same([single.ticks(2), single.masked], [[(3, "begin", "a"), (3, "end", "a")], []])

    def test_a_call_that_has_begun_goes_on(self):
        single = rung(single_of(edge("a", 1, ("run", 3))), "a")
        single.tick()
        single.mask("a")
        rung(single, "a")
        self.same([single.ticks(5), single.waiting], [[(2, "end", "a")], ["a"]])

    def test_a_disabled_level_is_high(self):
        single = single_of(level("a", 9, RUN, ("quiet", "a")))
        single.mask("a")
        rung(single, "a")
        self.same([single.ticks(2), single.waiting, single.highs], [[], ["a"], ["a"]])
        single.unmask("a")
        self.same([single.ticks(2), single.waiting, single.highs], [[(2, "begin", "a"), (2, "end", "a")], [], []])

    def test_steps_mask_and_unmask(self):
        single = rung(single_of(edge("a", 1, ("mask", "b"), ("run", 3), ("unmask", "b"), ("run", 2)), edge("b", 9, RUN)), "a")
        single.tick()
        rung(single, "b")
        self.same([single.masked, single.ticks(2), single.masked], [["b"], [], []])
        self.same(single.ticks(3), [(3, "begin", "b"), (3, "end", "b"), (5, "end", "a")])

    def test_a_line_masks_itself(self):
        single = rung(single_of(edge("a", 1, ("mask", "a"), RUN)), "a")
        self.same([single.tick(), single.masked], [[("begin", "a"), ("end", "a")], ["a"]])
        rung(single, "a")
        self.same([single.ticks(2), single.waiting], [[], ["a"]])

    def test_masked_twice_is_masked_once(self):
        single = rung(single_of(edge("a", 1, ("mask", "b"), ("mask", "b"), ("unmask", "b"), RUN), edge("b", 9, RUN)), "a", "a")
        single.tick()
        self.same([single.masked, rung(single, "b").tick()], [[], [("begin", "b"), ("end", "b")]])


class FlagTest(Case):
    def test_steps_set_and_clear(self):
        single = rung(single_of(edge("a", 1, ("set", 7), ("set", 0), RUN, ("clear", 7), ("clear", 3), ("set", 2), RUN, ("clear", 2))), "a")
        self.same([single.flags_up, single.tick(), single.flags_up], [[], [("begin", "a")], [0, 2]])
        self.same([single.tick(), single.flags_up], [[("end", "a")], [0]])

    def test_flags_while_a_run_goes_on(self):
        single = rung(single_of(edge("a", 1, ("set", 7), ("set", 0), ("run", 2), ("clear", 7))), "a")
        single.tick()
        self.same([single.flags_up, single.tick(), single.flags_up], [[0, 7], [("end", "a")], [0]])

    def test_an_await_whose_flag_is_up_takes_no_tick(self):
        single = rung(single_of(edge("a", 1, ("await", 4), RUN, ("await", 4), ("run", 2))), "a")
        single.set_flag(4)
        self.same([single.tick(), single.calls], [[("begin", "a")], [("a", 3, 0)]])
        self.same([single.ticks(2), single.spent], [[(2, "end", "a")], (3, 0, 0, 0)])
        self.same(single.flags_up, [4])

    def test_an_await_whose_flag_is_down_is_spun(self):
        single = rung(single_of(edge("a", 1, ("await", 4), RUN)), "a")
        self.same([single.ticks(3), single.calls], [[(0, "begin", "a")], [("a", 0, 0)]])
        self.same(single.spent, (0, 3, 0, 0))
        single.set_flag(4)
        self.same(single.calls, [("a", 0, 0)])
        self.same([single.ticks(2), single.spent], [[(3, "end", "a")], (1, 3, 0, 1)])

    def test_another_flag_does_not_help(self):
        single = rung(single_of(edge("a", 1, ("await", 0), RUN)), "a")
        for flag in range(1, 8):
            single.set_flag(flag)
        self.same([single.ticks(2), single.spent], [[(0, "begin", "a")], (0, 2, 0, 0)])

    def test_a_flag_that_is_up_between_ticks_only(self):
        single = rung(single_of(edge("a", 1, ("await", 0), RUN)), "a")
        single.tick()
        single.set_flag(0)
        single.clear_flag(0)
        self.same([single.tick(), single.calls], [[], [("a", 0, 0)]])

    def test_an_await_behind_a_run(self):
        single = rung(single_of(edge("a", 1, RUN, ("await", 0), ("run", 2))), "a")
        self.same([single.tick(), single.calls, single.spent], [[("begin", "a")], [("a", 1, 0)], (1, 0, 0, 0)])
        single.set_flag(0)
        self.same([single.tick(), single.calls, single.spent], [[], [("a", 2, 1)], (2, 0, 0, 0)])

    def test_an_await_behind_another(self):
        single = rung(single_of(edge("a", 1, ("await", 0), ("clear", 0), ("await", 1), ("await", 0), RUN)), "a")
        single.tick()
        single.set_flag(0)
        self.same([single.tick(), single.calls, single.flags_up], [[], [("a", 2, 0)], []])
        single.set_flag(1)
        self.same([single.tick(), single.calls, single.spent], [[], [("a", 3, 0)], (0, 3, 0, 0)])

    def test_a_call_that_ends_behind_an_await_leaves_the_tick(self):
        single = rung(single_of(edge("a", 1, ("await", 0))), "a")
        single.tick()
        single.set_flag(0)
        self.same([single.tick(), single.spent], [[("end", "a")], (0, 1, 0, 1)])

    def test_it_leaves_the_tick_to_a_work(self):
        single = rung(single_of(edge("a", 1, ("await", 0), ("later", "w")), works=(("w", 1, 1),)), "a")
        single.tick()
        single.set_flag(0)
        self.same([single.tick(), single.spent], [[("end", "a"), ("done", "w")], (0, 1, 1, 0)])

    def test_it_leaves_the_tick_to_the_call_beneath(self):
        single = rung(single_of(edge("a", 1, ("run", 3)), edge("b", 2, ("await", 0))), "a")
        single.tick()
        rung(single, "b")
        single.tick()
        self.same(single.calls, [("a", 0, 1), ("b", 0, 0)])
        single.set_flag(0)
        self.same([single.tick(), single.calls, single.spent], [[("end", "b")], [("a", 0, 2)], (2, 1, 0, 0)])

    def two_that_await(self, low, high):
        single = rung(single_of(edge("a", 1, *low), edge("b", 2, *high)), "a")
        single.tick()
        rung(single, "b")
        single.tick()
        self.same(single.calls, [("a", 0, 0), ("b", 0, 0)])
        single.set_flag(0)
        return single

    def test_several_calls_end_one_after_another(self):
        single = self.two_that_await((("await", 0),), (("await", 0),))
        self.same([single.tick(), single.spent], [[("end", "b"), ("end", "a")], (0, 2, 0, 1)])

    def test_the_call_beneath_passes_its_flag_in_the_same_tick(self):
        single = self.two_that_await((("await", 0), ("run", 2)), (("await", 0),))
        self.same([single.tick(), single.calls, single.spent], [[("end", "b")], [("a", 1, 1)], (1, 2, 0, 0)])

    def test_the_call_beneath_may_be_awaiting_another_flag(self):
        single = self.two_that_await((("await", 1), RUN), (("await", 0), ("set", 2)))
        self.same([single.tick(), single.calls, single.spent], [[("end", "b")], [("a", 0, 0)], (0, 3, 0, 0)])

    def test_what_a_call_does_at_its_end_holds_at_once(self):
        single = self.two_that_await((("await", 0), RUN), (("await", 0), ("clear", 0)))
        self.same([single.tick(), single.calls, single.spent], [[("end", "b")], [("a", 0, 0)], (0, 3, 0, 0)])
        single = self.two_that_await((("await", 1), RUN), (("await", 0), ("set", 1)))
        self.same([single.tick(), single.spent], [[("end", "b"), ("end", "a")], (1, 2, 0, 0)])

    def test_a_call_that_is_not_innermost_does_not_pass(self):
        single = rung(single_of(edge("a", 1, ("await", 0), RUN), edge("b", 2, ("run", 2))), "a")
        single.tick()
        single.set_flag(0)
        rung(single, "b")
        self.same([single.tick(), single.calls], [[("begin", "b")], [("a", 0, 0), ("b", 0, 1)]])
        self.same([single.tick(), single.calls], [[("end", "b")], [("a", 0, 0)]])
        single.clear_flag(0)
        self.same([single.tick(), single.spent], [[], (2, 2, 0, 0)])

    def test_a_call_that_ends_behind_the_tick_leaves_the_next_one(self):
        single = rung(single_of(edge("a", 1, ("await", 0), RUN), edge("b", 2, RUN, ("set", 0))), "a")
        single.tick()
        rung(single, "b")
        self.same([single.tick(), single.calls], [[("begin", "b"), ("end", "b")], [("a", 0, 0)]])
        self.same([single.tick(), single.spent], [[("end", "a")], (2, 1, 0, 0)])


class NoTickTest(Case):
    def test_a_call_without_ticks_ends_when_it_has_begun(self):
        single = rung(single_of(edge("a", 1, ("set", 0), ("set", 1))), "a")
        self.same([single.tick(), single.flags_up, single.calls], [[("begin", "a"), ("end", "a")], [0, 1], []])
        self.same(single.spent, (0, 0, 0, 1))

    def test_no_other_line_is_taken_in_this_tick(self):
        single = rung(single_of(edge("a", 9, ("set", 0)), edge("b", 1, RUN), edge("c", 2, ("set", 1))), "a", "b", "c")
        self.same(single.ticks(1), [(0, "begin", "a"), (0, "end", "a")])
        self.same([single.waiting, single.spent], [["c", "b"], (0, 0, 0, 1)])
        self.same(single.ticks(2), [(1, "begin", "c"), (1, "end", "c"), (2, "begin", "b"), (2, "end", "b")])

    def test_the_tick_is_left_to_the_call_beneath(self):
        single = rung(single_of(edge("a", 1, ("run", 3)), edge("b", 2, ("set", 0))), "a")
        single.tick()
        rung(single, "b")
        self.same([single.tick(), single.calls], [[("begin", "b"), ("end", "b")], [("a", 0, 2)]])
        self.same([single.tick(), single.spent], [[("end", "a")], (3, 0, 0, 0)])

    def test_the_call_beneath_passes_the_flag_that_was_set(self):
        single = rung(single_of(edge("a", 1, ("await", 0), ("run", 2)), edge("b", 2, ("set", 0))), "a")
        single.tick()
        rung(single, "b")
        self.same([single.tick(), single.calls], [[("begin", "b"), ("end", "b")], [("a", 1, 1)]])
        self.same(single.spent, (1, 1, 0, 0))

    def test_the_tick_is_left_to_the_works(self):
        single = rung(single_of(edge("a", 1, ("later", "w")), works=(("w", 1, 2),)), "a")
        self.same([single.tick(), single.queue], [[("begin", "a"), ("end", "a")], [("w", 1)]])
        self.same([single.tick(), single.queue, single.spent], [[("done", "w")], [], (0, 0, 2, 0)])

    def test_steps_between_runs_take_no_tick(self):
        handler = (("set", 0), RUN, ("set", 1), ("clear", 0), ("run", 2), ("set", 2))
        single = rung(single_of(edge("a", 1, *handler)), "a")
        self.same([single.tick(), single.calls, single.flags_up], [[("begin", "a")], [("a", 4, 0)], [1]])
        self.same([single.tick(), single.calls], [[], [("a", 4, 1)]])
        self.same([single.tick(), single.flags_up, single.spent], [[("end", "a")], [1, 2], (3, 0, 0, 0)])


class BarTest(Case):
    def test_only_a_greater_rank_is_let_by(self):
        for bar in range(10):
            single = rung(single_of(edge("a", 1, ("bar", bar), ("run", 2)), edge("b", 5, RUN)), "a")
            single.tick()
            self.same(single.bar, bar)
            begun = [("begin", "b"), ("end", "b")] if bar < 5 else [("end", "a")]
            self.same(rung(single, "b").tick(), begun)

    def test_a_bar_below_the_rank_of_the_call_lets_nobody_by_more(self):
        single = rung(single_of(edge("a", 5, ("bar", 1), ("run", 2)), edge("b", 5, RUN), edge("c", 3, RUN)), "a")
        single.tick()
        rung(single, "b", "c")
        self.same([single.bar, single.tick()], [1, [("end", "a")]])

    def test_the_bar_of_a_call_that_has_ended(self):
        single = rung(single_of(edge("a", 1, ("bar", 9), RUN), edge("b", 5, RUN)), "a", "a")
        self.same([single.tick(), single.bar], [[("begin", "a"), ("end", "a")], 0])
        self.same(rung(single, "b").tick(), [("begin", "b"), ("end", "b")])

    def test_the_bar_of_a_call_that_ends_when_it_has_begun(self):
        single = rung(single_of(edge("a", 9, ("bar", 9)), edge("b", 5, RUN)), "a", "b")
        self.same([single.tick(), single.bar, single.tick()], [[("begin", "a"), ("end", "a")], 0, [("begin", "b"), ("end", "b")]])

    def test_from_now_on(self):
        single = rung(single_of(edge("a", 1, ("bar", 9), ("run", 2), ("bar", 0), ("run", 2), ("bar", 4), RUN), edge("b", 2, ("run", 2))), "a")
        single.tick()
        rung(single, "b")
        self.same([single.bar, single.tick(), single.bar], [9, [], 0])
        self.same(single.ticks(2), [(2, "begin", "b"), (3, "end", "b")])
        self.same([single.bar, single.ticks(2), single.bar], [0, [], 4])
        rung(single, "b")
        self.same([single.tick(), single.bar], [[("end", "a")], 0])

    def test_each_call_keeps_the_bar(self):
        lines = (edge("a", 1, ("bar", 2), ("run", 9)), edge("b", 4, ("bar", 6), ("run", 3)), edge("c", 8, ("bar", 0), ("run", 2)))
        single = rung(single_of(*lines, edge("d", 6, RUN)), "a")
        single.tick()
        rung(single, "b")
        self.same([single.tick(), single.bar], [[("begin", "b")], 6])
        rung(single, "c", "d")
        self.same([single.tick(), single.bar], [[("begin", "c")], 0])
        self.same([single.tick(), single.bar], [[("end", "c")], 6])
        self.same([single.tick(), single.bar], [[], 6])
        self.same([single.tick(), single.bar], [[("end", "b")], 2])
        self.same([single.tick(), single.bar], [[("begin", "d"), ("end", "d")], 2])
        self.same(single.calls, [("a", 1, 1)])

    def test_the_bar_behind_an_await(self):
        single = rung(single_of(edge("a", 1, ("await", 0), ("bar", 3), RUN), edge("b", 3, RUN)), "a")
        single.tick()
        single.set_flag(0)
        rung(single, "b")
        # The line is taken first, ahead of the step that would bar it.
        self.same([single.tick(), single.bar], [[("begin", "b"), ("end", "b")], 0])
        rung(single, "b")
        self.same([single.tick(), single.tick()], [[("begin", "b"), ("end", "b")], [("end", "a")]])


class WorkTest(Case):
    def posts(self):
        """Each line, taking no tick, leaves its work for later."""
        works = (("x", 2, 3), ("y", 5, 2), ("z", 2, 1))
        lines = [edge("p" + name, 1, ("later", name)) for name in ("x", "y", "z")]
        return single_of(*lines, works=works)

    def tick_with(self, single, line):
        """The events of a tick in which a line leaves its work, but for those of the line."""
        events = rung(single, line).tick()
        self.same(events[:2], [("begin", line), ("end", line)])
        return events[2:]

    def test_ranks_and_order(self):
        single = self.posts()
        self.same([self.tick_with(single, "px"), single.queue], [[], [("x", 1)]])
        self.same([self.tick_with(single, "pz"), single.queue], [[], [("x", 2), ("z", 0)]])
        self.same([self.tick_with(single, "py"), single.queue], [[], [("y", 1), ("x", 2), ("z", 0)]])
        self.same([self.tick_with(single, "px"), single.queue], [[("done", "y")], [("x", 2), ("z", 0), ("x", 0)]])
        self.same([self.tick_with(single, "px"), single.queue], [[("done", "x")], [("z", 0), ("x", 0)]])
        self.same([single.tick(), single.queue], [[("done", "z")], [("x", 0)]])
        self.same(single.ticks(4), [(8, "done", "x")])
        self.same(single.spent, (0, 0, 9, 1))

    def test_a_work_with_no_tick_spent_is_not_queued_again(self):
        single = rung(single_of(edge("a", 1, ("later", "x"), ("later", "x"), RUN, ("later", "x")), works=(("x", 1, 1),)), "a")
        self.same([single.tick(), single.queue], [[("begin", "a"), ("end", "a")], [("x", 0)]])
        self.same(single.ticks(3), [(1, "done", "x")])

    def test_a_work_with_ticks_spent_is_queued_once_more(self):
        single = self.posts()
        self.tick_with(single, "px")
        self.same([self.tick_with(single, "px"), single.queue], [[], [("x", 2), ("x", 0)]])
        self.same([self.tick_with(single, "px"), single.queue], [[("done", "x")], [("x", 0)]])
        self.same(single.ticks(4), [(5, "done", "x")])

    def test_a_work_that_is_done_can_be_queued_again(self):
        single = self.posts()
        self.same([self.tick_with(single, "pz"), single.queue], [[("done", "z")], []])
        self.same([self.tick_with(single, "pz"), single.queue], [[("done", "z")], []])

    def test_of_the_same_rank_the_one_that_was_queued_first(self):
        steps = [("later", name) for name in ("b", "c", "a", "d")]
        works = (("a", 3, 1), ("b", 3, 1), ("c", 1, 1), ("d", 9, 1))
        single = rung(single_of(edge("l", 1, *steps), works=works), "l")
        self.same(single.ticks(4)[2:], [(0, "done", "d"), (1, "done", "b"), (2, "done", "a"), (3, "done", "c")])

    def test_no_tick_is_spent_on_works_while_there_are_calls(self):
        single = rung(single_of(edge("a", 1, ("later", "x"), ("run", 2), ("await", 0)), works=(("x", 9, 2),)), "a")
        single.ticks(4)
        self.same([single.queue, single.spent], [[("x", 0)], (2, 2, 0, 0)])

    def test_a_call_breaks_into_a_work(self):
        single = self.posts()
        self.tick_with(single, "px")
        self.same([self.tick_with(single, "py"), single.queue], [[], [("y", 1), ("x", 1)]])
        single = rung(single_of(edge("a", 1, ("later", "x"), RUN), works=(("x", 9, 2),)), "a")
        single.ticks(2)
        rung(single, "a")
        self.same([single.queue, single.tick(), single.queue], [[("x", 1)], [("begin", "a"), ("end", "a")], [("x", 1), ("x", 0)]])

    def test_the_last_tick_of_a_long_work(self):
        single = rung(single_of(edge("a", 1, ("later", "x")), works=(("x", 1, 99),)), "a")
        self.same([single.ticks(98)[2:], single.queue], [[], [("x", 98)]])
        self.same([single.ticks(1), single.queue], [[(98, "done", "x")], []])

    def test_works_are_done_behind_the_events_of_calls(self):
        single = rung(single_of(edge("a", 1, ("later", "x"), ("later", "y")), works=(("x", 1, 1), ("y", 2, 1))), "a")
        self.same(single.tick(), [("begin", "a"), ("end", "a"), ("done", "y")])
        self.same(rung(single, "a").tick(), [("begin", "a"), ("end", "a"), ("done", "y")])
        self.same(single.ticks(2), [(2, "done", "x")])


if __name__ == "__main__":
    unittest.main()
