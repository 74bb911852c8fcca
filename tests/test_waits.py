"""Point 8: the longest waits of lines whose rings keep gaps."""

import unittest
from fractions import Fraction

from callbells.errors import InvalidNumber, NotPlain, TooDense, UnknownLine
from callbells.setups import Setup
from callbells.single import Single
from callbells.waits import begins_of, judge_begins, longest_wait, waiting_rings

from helpers import ODD_VALUES, Case, Dice, edge, level, plain, usual

ABC = plain(("a", 3, 2), ("b", 2, 3), ("c", 1, 2))
GAPS = {"a": 5, "b": 9, "c": 20}
# The calls that matter begin in ticks 3, 11 and 18; the last two wait for 4 ticks.
LONG = (plain(("a", 3, 1), ("b", 2, 2), ("c", 1, 2)), {"a": 5, "b": 4, "c": 7}, "c")
ASKS = (longest_wait, begins_of, waiting_rings, lambda *told: judge_begins(*told, []))


def smallest(first, holds):
    """The smallest number from a first one on for which something holds."""
    while not holds(first):
        first += 1
    return first


def told_begins(rows):
    """The calls of the last row (name, cost, gap) that matter, as the document finds them."""
    *above, (_, cost, gap) = rows
    if sum(Fraction(row[1], row[2]) for row in rows) >= 1:
        return None
    begins = []
    while True:
        k = len(begins)
        begins.append(smallest(0, lambda b: b == k * cost + sum(c * (b // g + 1) for _, c, g in above)))
        if smallest(1, lambda e: e == (k + 1) * cost + sum(c * ((e + g - 1) // g) for _, c, g in above)) <= (k + 1) * gap:
            return begins


def told_outcome(setup, gaps, line):
    """What is to be returned by begins_of, or the line of TooDense."""
    names = [name for name in setup.order if name in gaps]
    rows = [(name, setup.ticks_of(name), gaps[name]) for name in names[:names.index(line) + 1]]
    for at, (name, _, gap) in enumerate(rows):
        begins = told_begins(rows[:at + 1])
        if begins is None:
            return None
        if max(b - k * gap for k, b in enumerate(begins)) >= gap:
            return "too dense: " + name
    return begins


def outcome(setup, gaps, line):
    try:
        return begins_of(setup, gaps, line)
    except TooDense as error:
        return "too dense: " + error.line


def waits_played(setup, rings, line, ticks):
    """The ticks ahead of which a line rings, and those in which its calls begin."""
    single = Single(setup)
    begins = []
    for tick in range(ticks):
        for at, name in rings:
            if at == tick and single.ring(name) == "merged":
                raise AssertionError("merged")
        begins.extend(tick for event in single.tick() if event == ("begin", line))
    return [at for at, name in rings if name == line], begins


def thrown_rows(dice):
    """Some lines with costs, and gaps for most of them."""
    names = ["d", "a", "e", "b", "c"][:1 + dice.below(5)]
    rows = [(name, 9 - at, 1 + dice.below(5)) for at, name in enumerate(names)]
    gaps = {name: 4 + dice.below(22) for name in names if dice.below(8)}
    return plain(*rows), gaps


class WaitTest(Case):
    def test_the_greatest_rank(self):
        self.same(longest_wait(ABC, GAPS, "a"), 0)
        self.same(begins_of(ABC, GAPS, "a"), [0])
        self.same(waiting_rings(ABC, GAPS, "a"), [(0, "a")])

    def test_lines_below_do_not_matter(self):
        self.same(begins_of(ABC, {"a": 5, "b": 9}, "b"), begins_of(ABC, {"a": 5, "b": 9, "c": 1}, "b"))

    def test_lines_without_gaps_never_ring(self):
        self.same([longest_wait(ABC, {"c": 20}, "c"), longest_wait(ABC, {"b": 9, "c": 20}, "c")], [0, 3])
        self.same(waiting_rings(ABC, {"b": 9, "c": 20}, "c"), [(0, "b"), (0, "c")])

    def test_the_sum_of_all_run_steps(self):
        setup = Setup((edge("a", 2, ("run", 2), ("run", 1)), edge("b", 1, ("run", 1))))
        self.same(begins_of(setup, {"a": 8, "b": 9}, "b"), [3])

    def test_several_calls_that_matter(self):
        # b takes ticks 3 to 5 and 9, so until behind its next ring; then 10, 11, 15 and 16, in time.
        setup = plain(("a", 2, 3), ("b", 1, 4))
        self.same(begins_of(setup, {"a": 6, "b": 9}, "b"), [3, 10])
        self.same(longest_wait(setup, {"a": 6, "b": 9}, "b"), 3)
        self.same(waiting_rings(setup, {"a": 6, "b": 9}, "b"), [(0, "a"), (0, "b")])

    def test_a_call_over_just_at_the_next_ring(self):
        setup = plain(("a", 2, 3), ("b", 1, 4))
        self.same([begins_of(setup, {"a": 20, "b": 7}, "b"), begins_of(setup, {"a": 20, "b": 6}, "b")], [[3], [3, 7]])

    def test_a_later_call_waits_longest(self):
        setup = plain(("a", 9, 1), ("b", 8, 2), ("c", 1, 2))
        gaps = {"a": 3, "b": 5, "c": 8}
        self.same([begins_of(setup, gaps, "c"), longest_wait(setup, gaps, "c")], [[4, 13], 5])
        rings = [(0, "a"), (0, "b"), (0, "c"), (3, "a"), (5, "b"), (6, "a"), (8, "c"), (9, "a"), (10, "b"), (12, "a")]
        self.same(waiting_rings(setup, gaps, "c"), rings)

    def test_the_first_of_several_longest_waits(self):
        setup, gaps, line = LONG
        self.same([begins_of(setup, gaps, line), longest_wait(setup, gaps, line)], [[3, 11, 18], 4])
        rings = [(0, "a"), (0, "b"), (0, "c"), (4, "b"), (5, "a"), (7, "c"), (8, "b"), (10, "a")]
        self.same(waiting_rings(setup, gaps, line), rings)

    def test_as_the_document_finds_them(self):
        dice = Dice(3)
        kinds = {}
        for _ in range(1500):
            setup, gaps = thrown_rows(dice)
            for line in gaps:
                expected = told_outcome(setup, gaps, line)
                with self.subTest(setup=setup.text, gaps=gaps, line=line):
                    self.same(outcome(setup, gaps, line), expected)
                    if isinstance(expected, list):
                        waits = [b - k * gaps[line] for k, b in enumerate(expected)]
                        self.same(longest_wait(setup, gaps, line), max(waits))
                        kinds["later" if waits.index(max(waits)) else "first"] = True
                kinds[str(expected)[:3]] = True
        self.assertLessEqual({"Non", "too", "later", "first"}, set(kinds))

    def test_gaps_in_any_order(self):
        setup = plain(("a", 3, 2), ("b", 2, 3), ("c", 1, 2))
        for names in ("abc", "cba", "bca"):
            gaps = {name: GAPS[name] for name in names}
            self.same([longest_wait(setup, gaps, "c"), begins_of(setup, gaps, "c"), waiting_rings(setup, gaps, "c"),
                       judge_begins(setup, gaps, "c", [7])],
                      [7, [7], [(0, "a"), (0, "b"), (0, "c"), (5, "a")], None])

    def test_arguments_stay_as_they_are(self):
        gaps = {"c": 20, "a": 5, "b": 9}
        begins = [7, 9]
        for ask in ASKS[:3]:
            ask(ABC, gaps, "c")
        judge_begins(ABC, gaps, "c", begins)
        self.same([gaps, begins], [{"c": 20, "a": 5, "b": 9}, [7, 9]])

    def test_what_is_returned_is_the_callers(self):
        begins_of(ABC, GAPS, "c").append(99)
        waiting_rings(ABC, GAPS, "c").clear()
        self.same([begins_of(ABC, GAPS, "c"), len(waiting_rings(ABC, GAPS, "c"))], [[7], 4])


class PlayedTest(Case):
    def test_what_is_supposed(self):
        dice = Dice(11)
        played = 0
        for _ in range(300):
            setup, gaps = thrown_rows(dice)
            for line in gaps:
                begins = outcome(setup, gaps, line)
                if isinstance(begins, list):
                    with self.subTest(setup=setup.text, gaps=gaps, line=line):
                        self.check_supposed(setup, gaps, line, begins)
                        played += 1
        self.assertGreater(played, 300)

    def check_supposed(self, setup, gaps, line, begins):
        ticks = begins[-1] + 1
        above = setup.order[:setup.order.index(line) + 1]
        rings = [(tick, name) for tick in range(ticks) for name in above if name in gaps and tick % gaps[name] == 0]
        rung, begun = waits_played(setup, rings, line, ticks)
        self.same(begun, begins)
        waits = [b - a for a, b in zip(rung, begun)]
        self.same(longest_wait(setup, gaps, line), max(waits))
        last = begun[waits.index(max(waits))]
        self.same(waiting_rings(setup, gaps, line), [ring for ring in rings if ring[0] <= last])

    def test_the_waiting_rings_lead_to_the_wait(self):
        for gaps, line in ((GAPS, "c"), (GAPS, "b"), ({"a": 4, "b": 10, "c": 50}, "c")):
            wait = longest_wait(ABC, gaps, line)
            rung, begun = waits_played(ABC, waiting_rings(ABC, gaps, line), line, 100)
            self.same(max(b - a for a, b in zip(rung, begun)), wait)

    def test_no_ring_waits_longer(self):
        dice = Dice(5)
        for _ in range(80):
            setup, gaps = thrown_rows(dice)
            waits = {line: longest_wait(setup, gaps, line) for line in gaps if isinstance(outcome(setup, gaps, line), list)}
            rings = []
            for line in waits:
                tick = dice.below(6)
                while tick < 80:
                    rings.append((tick, line))
                    tick += gaps[line] + dice.below(3) * dice.below(3)
            for line, wait in waits.items():
                rung, begun = waits_played(setup, rings, line, 200)
                self.same(len(begun), len(rung))
                for at, tick in zip(rung, begun):
                    self.assertLessEqual(tick - at, wait)


class NoneTest(Case):
    def test_costs_by_gaps_come_to_one(self):
        setup = plain(("a", 3, 2), ("b", 2, 3), ("c", 1, 2))
        self.same(longest_wait(setup, {"a": 2}, "a"), None)
        self.same(longest_wait(setup, {"a": 1}, "a"), None)
        self.same(longest_wait(setup, {"a": 3}, "a"), 0)
        for gaps in ({"a": 4, "b": 6}, {"a": 5, "b": 5}):
            self.same([ask(setup, gaps, "b") for ask in ASKS], [None, None, None, 0])
            self.same(judge_begins(setup, gaps, "b", None), None)
        self.same(begins_of(setup, {"a": 4, "b": 7}, "b"), told_begins([("a", 2, 4), ("b", 3, 7)]))

    def test_just_below_one(self):
        # 29/60 + 30/59 is less than 1 by 29/3540.
        setup = plain(("a", 2, 29), ("b", 1, 30))
        self.same(outcome(setup, {"a": 60, "b": 59}, "b"), told_outcome(setup, {"a": 60, "b": 59}, "b"))
        self.assertIsInstance(outcome(setup, {"a": 60, "b": 59}, "b"), list)
        # Thirds come to 1 exactly.
        thirds = plain(("a", 3, 1), ("b", 2, 1), ("c", 1, 1))
        self.same(longest_wait(thirds, {"a": 3, "b": 3, "c": 3}, "c"), None)
        self.same(longest_wait(thirds, {"a": 3, "b": 3, "c": 4}, "c"), 2)

    def test_costs_beyond_all_gaps(self):
        setup = Setup((edge("a", 1, *[("run", 99)] * 8),))
        self.same(longest_wait(setup, {"a": 60}, "a"), None)

    def test_one_above_has_none(self):
        self.same([ask(ABC, {"a": 2, "b": 60, "c": 1}, "c") for ask in ASKS], [None, None, None, 0])


class TooDenseTest(Case):
    def test_the_line_itself(self):
        for ask in ASKS:
            self.raises(TooDense, ask, ABC, {"a": 3, "b": 60, "c": 8}, "c", line="c")
        self.raises(TooDense, judge_begins, ABC, {"a": 3, "b": 60, "c": 8}, "c", None, line="c")

    def test_a_wait_as_long_as_the_gap(self):
        # b begins in tick 4, with a gap of 4 it rings there again.
        setup = plain(("a", 2, 4), ("b", 1, 1))
        self.raises(TooDense, longest_wait, setup, {"a": 20, "b": 4}, "b", line="b")
        self.same(longest_wait(setup, {"a": 20, "b": 5}, "b"), 4)

    def test_a_line_above_decides(self):
        gaps = {"a": 20, "b": 4, "c": 60}
        setup = plain(("a", 3, 4), ("b", 2, 1), ("c", 1, 1))
        for ask in ASKS:
            self.raises(TooDense, ask, setup, gaps, "c", line="b")

    def test_the_first_that_decides(self):
        setup = plain(("a", 4, 4), ("b", 3, 1), ("c", 2, 1), ("d", 1, 1))
        # b is too dense, whatever is below it; c and d have None or are too dense, too.
        self.raises(TooDense, longest_wait, setup, {"a": 20, "b": 4, "c": 1, "d": 50}, "d", line="b")
        self.raises(TooDense, longest_wait, setup, {"a": 20, "b": 4, "c": 1}, "c", line="b")
        self.raises(TooDense, longest_wait, setup, {"a": 20, "b": 4, "c": 3, "d": 50}, "d", line="b")
        self.same(longest_wait(setup, {"a": 4, "b": 1, "c": 1, "d": 1}, "d"), None)
        self.raises(TooDense, longest_wait, setup, {"a": 20, "c": 2, "d": 1}, "d", line="c")


class ArgumentsTest(Case):
    def refused(self, error, *arguments, **told):
        for ask in ASKS:
            self.raises(error, ask, *arguments, **told)

    def test_not_plain_first(self):
        others = (usual(), Setup((level("a", 1, ("run", 1)),)), Setup((edge("a", 1, ("set", 0)),)),
                  plain(("a", 2, 1), ("b", 2, 1)))
        for setup in others:
            self.refused(NotPlain, setup, {"a": 5}, "a")
            self.refused(NotPlain, setup, {"fan": 0}, "fan")

    def test_keys_that_are_no_lines(self):
        for key in ("fan", "", None, 5, True, (), ("a",), -1):
            self.refused(UnknownLine, ABC, {"a": 5, key: 7, "other": 7}, "a", line=key)
            self.refused(UnknownLine, ABC, {key: 5}, key, line=key)
        self.refused(UnknownLine, ABC, {"a": 0, "c": True, "y": 7, "x": 7}, "fan", line="y")

    def test_gaps_out_of_range(self):
        for gap in (0, 61, -5, 10 ** 30, True, False, None, "5", 5.0, [5], (5,)):
            self.refused(InvalidNumber, ABC, {"a": 5, "b": gap}, "a")
            self.refused(InvalidNumber, ABC, {"c": gap, "a": 5}, "b")
            self.refused(InvalidNumber, ABC, {"a": gap}, "fan")
        self.same([longest_wait(ABC, {"a": 60}, "a"), longest_wait(plain(("a", 1, 1)), {"a": 2}, "a")], [0, 0])
        self.same(longest_wait(plain(("a", 1, 1)), {"a": 1}, "a"), None)

    def test_a_line_that_is_not_among_the_gaps(self):
        for line in ODD_VALUES + ("fan", "b"):
            self.refused(UnknownLine, ABC, {"a": 5, "c": 20}, line, line=line)
        self.refused(UnknownLine, ABC, {}, "a", line="a")

    def test_unknown_before_too_dense_and_none(self):
        self.refused(UnknownLine, ABC, {"a": 1}, "c", line="c")
        self.refused(UnknownLine, ABC, {"a": 3, "c": 2}, "b", line="b")


class JudgeTest(Case):
    def test_the_same(self):
        self.same([judge_begins(ABC, GAPS, "c", [7]), judge_begins(*LONG, [3, 11, 18])], [None, None])

    def test_different(self):
        self.same([judge_begins(*LONG, [2, 11, 18]), judge_begins(*LONG, [3, 10, 18])], [0, 1])
        self.same([judge_begins(*LONG, [3, 11, 19]), judge_begins(*LONG, [3, 12])], [2, 1])

    def test_superfluous(self):
        self.same([judge_begins(*LONG, [3, 11, 18, 25]), judge_begins(*LONG, [3, 11, 18, 25, 31])], [3, 3])

    def test_missing(self):
        self.same([judge_begins(*LONG, []), judge_begins(*LONG, [3, 11])], [0, 2])

    def test_booleans_are_no_integers(self):
        self.same([judge_begins(ABC, GAPS, "a", [False]), judge_begins(ABC, GAPS, "a", [0])], [0, None])
        setup = plain(("a", 2, 1), ("b", 1, 1))
        self.same([judge_begins(setup, {"a": 5, "b": 5}, "b", [True]), begins_of(setup, {"a": 5, "b": 5}, "b")], [0, [1]])
        for item in (None, "7", [7], (7,), 7.0):
            self.same(judge_begins(ABC, GAPS, "c", [item]), 0)

    def test_none(self):
        full = {"a": 5, "b": 6, "c": 20}
        self.same([judge_begins(ABC, full, "c", None), judge_begins(ABC, full, "c", [7])], [None, 0])
        self.same([judge_begins(ABC, full, "c", []), judge_begins(ABC, GAPS, "c", None)], [0, 0])


if __name__ == "__main__":
    unittest.main()
