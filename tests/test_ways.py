"""Point 9: ways out of waiting for a flag."""

import unittest
from itertools import product

from callbells.errors import TooMany
from callbells.setups import Setup
from callbells.single import Single
from callbells.ways import way_out

from helpers import Case, Dice, edge, letters, level, single_of, usual

RUN = ("run", 1)
LOW = edge("low", 2, RUN, ("await", 0), RUN)
HIGH = edge("high", 4, ("run", 2), ("set", 0))


def begun(single, line, ticks=1):
    """The processor some ticks after a line has rung."""
    single.ring(line)
    single.ticks(ticks)
    return single


def goes_on(single, rings):
    """Whether the innermost call goes on by a list of rings, and not ahead of its end."""
    calls = single.calls
    play = single.copied()
    for at, line in enumerate(rings, start=1):
        if line is not None:
            play.ring(line)
        play.tick()
        if play.calls[:len(calls)] != calls:
            return at == len(rings)
    return False


def tried_way_out(single, order, longest):
    """The first list that does, all lists tried one after another."""
    for count in range(longest + 1):
        for rings in product((None, *order), repeat=count):
            if goes_on(single, rings):
                return list(rings)
    return None


def states_of(single, order):
    """How many states come up however lines ring: told properties only."""
    def told(play):
        return repr((play.waiting, play.calls, play.queue, play.flags_up, play.bar, play.masked, play.highs))
    seen = {told(single)}
    front = [single]
    while front:
        play = front.pop()
        for line in (None, *order):
            following = play.copied()
            if line is not None:
                following.ring(line)
            following.tick()
            if told(following) not in seen:
                seen.add(told(following))
                front.append(following)
    return len(seen)


class NothingAwaitedTest(Case):
    def test_no_call(self):
        self.same(way_out(Single(usual())), [])
        single = single_of(LOW, HIGH)
        single.ring("low")
        self.same(way_out(single), [])

    def test_a_call_that_runs(self):
        self.same(way_out(begun(single_of(edge("a", 1, ("run", 5))), "a")), [])
        # The call beneath awaits a flag, the innermost one runs.
        single = begun(begun(single_of(LOW, HIGH), "low", 2), "high")
        self.same([single.calls, way_out(single)], [[("low", 1, 0), ("high", 0, 1)], []])

    def test_the_flag_is_up(self):
        single = begun(single_of(LOW), "low", 3)
        self.same(way_out(single), None)
        single.set_flag(1)
        self.same(way_out(single), None)
        single.set_flag(0)
        self.same([single.calls, way_out(single)], [[("low", 1, 0)], []])


class WayOutTest(Case):
    def test_a_line_that_sets_the_flag(self):
        single = begun(single_of(LOW, HIGH), "low", 2)
        self.same(way_out(single), ["high", None, None])

    def test_nothing_has_to_ring(self):
        # What is to set the flag waits already, or is under way.
        single = begun(single_of(LOW, HIGH), "low", 2)
        single.ring("high")
        self.same(way_out(single), [None, None, None])
        single = single_of(edge("a", 1, ("ring", "b"), ("await", 0)), edge("b", 2, ("run", 3), ("set", 0)))
        self.same(way_out(begun(single, "a")), [None, None, None, None])

    def test_a_call_that_goes_on_in_the_tick_of_the_ring(self):
        single = begun(single_of(LOW, edge("high", 4, ("set", 0))), "low", 1)
        self.same(way_out(single), ["high"])
        # It ends in this tick.
        single = begun(single_of(edge("low", 1, ("await", 0)), edge("high", 4, ("set", 0))), "low")
        self.same(way_out(single), ["high"])

    def test_the_flag_goes_down_again(self):
        single = single_of(edge("a", 1, ("await", 0), RUN), edge("b", 3, ("set", 0), ("clear", 0)))
        self.same(way_out(begun(single, "a")), None)
        single = single_of(edge("a", 1, ("await", 0), RUN), edge("b", 3, ("set", 0), RUN, ("clear", 0)),
                           edge("c", 4, RUN, ("set", 0)))
        self.same(way_out(begun(single, "a")), ["c", None])

    def test_the_first_in_the_order_of_lines(self):
        setters = [edge("b", 4, ("set", 0)), edge("z", 5, ("set", 0)), edge("a", 4, ("set", 0))]
        single = begun(single_of(LOW, *setters), "low", 2)
        self.same(way_out(single), ["z"])
        self.same(way_out(begun(single_of(LOW, setters[0], setters[2]), "low", 2)), ["a"])

    def test_none_goes_before_all_lines(self):
        # c has to be second: it can ring ahead of any of the two ticks.
        lines = [edge("a", 1, ("await", 0)), edge("b", 5, ("run", 2), ("unmask", "c")), edge("c", 3, ("set", 0))]
        single = single_of(*lines)
        single.mask("c")
        begun(single, "a")
        self.same(way_out(single), ["b", None, "c"])
        single.ring("c")
        self.same(way_out(single), ["b", None, None])

    def test_shorter_ones_before_longer_ones(self):
        single = begun(single_of(LOW, edge("slow", 9, ("run", 4), ("set", 0)), edge("fast", 3, ("run", 2), ("set", 0))),
                       "low", 2)
        self.same(way_out(single), ["fast", None, None])

    def test_several_lines_have_to_ring(self):
        lines = [edge("a", 1, ("await", 0), RUN), edge("b", 5, ("await", 1), ("set", 0)), edge("c", 6, ("set", 1)),
                 edge("d", 2, ("await", 2), ("set", 0))]
        single = begun(single_of(*lines), "a")
        self.same(way_out(single), ["c", "b"])
        begun(single, "b")
        self.same([single.calls, way_out(single)], [[("a", 0, 0), ("b", 0, 0)], ["c"]])

    def test_only_lines_that_are_let_by(self):
        lines = [edge("a", 4, ("bar", 6), ("await", 0), RUN), edge("b", 6, ("set", 0)), edge("c", 3, ("set", 0))]
        self.same(way_out(begun(single_of(*lines), "a")), None)
        self.same(way_out(begun(single_of(*lines, edge("d", 7, ("set", 0))), "a")), ["d"])
        single = begun(single_of(*lines, edge("d", 7, ("set", 0))), "a")
        single.mask("d")
        self.same(way_out(single), None)

    def test_levels(self):
        lines = [edge("a", 1, ("await", 0), RUN), level("b", 3, ("run", 2), ("set", 0), ("quiet", "b"))]
        self.same(way_out(begun(single_of(*lines), "a")), ["b", None, None])

    def test_another_call_awaits_above(self):
        # b would be above a, and never go on: only c leads out.
        lines = [edge("a", 1, ("await", 0), RUN), edge("b", 5, ("await", 1), ("set", 0)), edge("c", 2, ("run", 6), ("set", 0))]
        self.same(way_out(begun(single_of(*lines), "a")), ["c"] + [None] * 6)

    def test_a_later_await_of_the_same_flag(self):
        single = single_of(edge("a", 1, ("await", 0), ("clear", 0), ("await", 0)), edge("b", 3, ("set", 0)))
        begun(single, "a")
        self.same(way_out(single), ["b"])
        begun(single, "b")
        self.same([single.calls, way_out(single)], [[("a", 2, 0)], ["b"]])

    def test_standstills(self):
        self.same(way_out(begun(single_of(LOW), "low", 2)), None)
        # A line cannot call its own handler away, nor can one of the same rank.
        self.same(way_out(begun(single_of(edge("a", 1, ("await", 0), ("set", 0))), "a")), None)
        self.same(way_out(begun(single_of(edge("a", 1, ("await", 0)), edge("b", 1, ("set", 0))), "a")), None)

    def test_the_processor_stays_as_it_is(self):
        for lines in ((LOW, HIGH), (LOW,)):
            single = begun(single_of(*lines), "low", 2)
            before = single.copied()
            first = way_out(single)
            self.same([first, single == before, single.now, single.spent], [way_out(single), True, 2, (1, 1, 0, 0)])
        single = begun(single_of(LOW, HIGH), "low", 2)
        way_out(single).append("low")
        self.same(way_out(single), ["high", None, None])

    def test_against_all_lists(self):
        dice = Dice(21)
        found = {}
        for _ in range(150):
            single, order = thrown_single(dice)
            if not single.awaits_flag():
                continue
            way = way_out(single)
            with self.subTest(calls=single.calls, way=way):
                expected = tried_way_out(single, order, 4)
                if expected is None and way is not None:
                    self.assertGreater(len(way), 4)
                    self.assertTrue(goes_on(single, way))
                else:
                    self.same(way, expected)
            found[repr(way)] = True
        self.assertGreater(len(found), 10)


def thrown_single(dice):
    """A processor whose call awaits a flag, and lines above whose steps are thrown."""
    words = (("run", 1), ("run", 2), ("await", 1), ("await", 2), ("set", 0), ("set", 1), ("set", 0), ("set", 2),
             ("clear", 0), ("ring", "b"), ("ring", "c"), ("unmask", "b"), ("unmask", "c"), ("mask", "b"))
    lines = [edge("a", 1, ("await", 0), RUN)]
    for name in ("b", "c"):
        lines.append(edge(name, 2 + dice.below(2), *[dice.one_of(words) for _ in range(2 + dice.below(3))]))
    single = single_of(*lines)
    begun(single, "a")
    for line in ("b", "c"):
        if dice.below(3) == 0:
            single.mask(line)
        if dice.below(3) == 0:
            begun(single, line, dice.below(3))
    return single, Setup(tuple(lines)).order


class TooManyTest(Case):
    def waiting_singles(self, ticks, *behind):
        """A call that awaits a flag, and a line that takes so many ticks; once more, with a flag up.

        Before the line has ended, there are 2 * ticks - 1 states: it is not under way, and it waits
        or not; or some ticks were spent on it, and from the second one on it waits again or not.
        With flag 7 up at first there is one more: the line makes it go down when it begins.
        """
        steps = [("run", 99)] * (ticks // 99) + [("run", ticks % 99)]
        single = begun(single_of(level("low", 1, ("await", 0)), edge("top", 9, ("clear", 7), *steps, *behind)), "low")
        marked = single.copied()
        marked.set_flag(7)
        return single, marked

    def test_a_thousand_states(self):
        single, marked = self.waiting_singles(500)
        self.same([states_of(single, ("top", "low")), states_of(marked, ("top", "low"))], [999, 1000])
        self.same([way_out(single), way_out(marked)], [None, None])
        single, marked = self.waiting_singles(501)
        self.same([states_of(single, ("top", "low")), states_of(marked, ("top", "low"))], [1001, 1002])
        self.raises(TooMany, way_out, single)
        self.raises(TooMany, way_out, marked)

    def test_a_thousand_states_before_the_call_goes_on(self):
        # When top has ended, low stays at its step for one tick more, then it goes on: there are two
        # states for each tick of top up to then, and the one behind, which has gone on, does not count.
        single, _ = self.waiting_singles(500, ("set", 0))
        self.same(way_out(single), ["top"] + [None] * 500)
        single, _ = self.waiting_singles(501, ("set", 0))
        self.raises(TooMany, way_out, single)

    def test_the_present_state_counts(self):
        # The present state and the one behind it, with flag 7 up, do not come up again.
        runs = [("run", 99)] * 5 + [("run", 3)]
        single = begun(single_of(level("low", 1, ("await", 0)), edge("top", 9, ("run", 2), ("clear", 7), *runs)), "low")
        self.same(states_of(single, ("top", "low")), 999)
        single.set_flag(7)
        single.ring("top")
        self.same(states_of(single, ("top", "low")), 1001)
        self.raises(TooMany, way_out, single)
        single.tick()
        self.same([single.calls[-1], single.flags_up, states_of(single, ("top", "low"))], [("top", 0, 1), [7], 1000])

    def test_lines_that_wait(self):
        lines = [edge(name, 1, RUN) for name in letters(10)]
        low = edge("low", 2, ("await", 0))
        # Each subset of the lines can wait, and low with it.
        single = begun(single_of(low, *lines[:8]), "low")
        self.same([states_of(single, ("low", *letters(8))), way_out(single)], [512, None])
        self.raises(TooMany, way_out, begun(single_of(low, *lines[:9]), "low"))

    def test_states_before_the_call_goes_on_only(self):
        # More than a thousand states can come up, but the call goes on at once.
        lines = [edge(name, 1, RUN) for name in letters(10)]
        single = begun(single_of(edge("low", 2, ("await", 0)), edge("top", 9, ("set", 0)), *lines), "low")
        self.same(way_out(single), ["top"])

    def test_the_processor_stays_as_it_is(self):
        lines = [edge(name, 1, RUN) for name in letters(10)]
        single = begun(single_of(edge("low", 2, ("await", 0)), *lines), "low")
        before = single.copied()
        self.raises(TooMany, way_out, single)
        self.raises(TooMany, way_out, single)
        self.assertEqual(single, before)


if __name__ == "__main__":
    unittest.main()
