"""Point 9: when lines can have rung, by a log of begins."""

import unittest
from itertools import product

from callbells.errors import InvalidLog, NotPlain
from callbells.ringlogs import first_impossible, ring_ranges
from callbells.setups import Setup
from callbells.single import Single

from helpers import ODD_VALUES, Case, Dice, edge, level, plain, usual

ABC = plain(("a", 3, 2), ("b", 2, 3), ("c", 1, 2))


def played_log(setup, rings):
    """The log of all begins if lines ring ahead of ticks, or None if a ring is merged."""
    single = Single(setup)
    log = []
    for tick in range(max([at for at, _ in rings], default=0) + 100):
        for at, line in rings:
            if at == tick and single.ring(line) == "merged":
                return None
        log.extend((tick, name) for word, name in single.tick() if word == "begin")
    return log


def played_ranges(setup, log):
    """The ticks ahead of which each line can have rung, all tried one after another."""
    ranges = []
    for at, (tick, line) in enumerate(log):
        rung = [early for early in range(tick + 1)
                if played_log(setup, log[:at] + [(early, line)] + log[at + 1:]) == log]
        if rung != list(range(rung[0], tick + 1)):
            raise AssertionError("not a range")
        ranges.append((rung[0], tick))
    return ranges


def thrown_log(setup, dice, count):
    """A log of rings that are thrown."""
    rings = [(dice.below(20), dice.one_of(setup.order)) for _ in range(count)]
    single = Single(setup)
    log = []
    for tick in range(60):
        for at, line in rings:
            if at == tick:
                single.ring(line)
        log.extend((tick, name) for word, name in single.tick() if word == "begin")
    return log


class FirstImpossibleTest(Case):
    def test_possible_logs(self):
        for log in ([], [(0, "a")], [(5, "c")], [(0, "b"), (1, "a"), (5, "c")], [(0, "c"), (1, "b"), (2, "a")],
                    [(0, "a"), (2, "a"), (4, "a")], [(0, "b"), (3, "b")], [(10 ** 6, "a")], [(0, "a"), (10 ** 6, "a")]):
            self.same(first_impossible(ABC, log), None)

    def test_what_is_no_item(self):
        spoilt = ([0, "a"], (0,), (0, "a", 1), ("a", 0), (True, "a"), (False, "a"), (-1, "a"), (10 ** 6 + 1, "a"),
                  (0, "fan"), (0, ""), (0, None), (0, 5), (0, ["a"]), (0, ("a",)), (None, "a"), ("0", "a"), (0.0, "a"),
                  ([0], "a"))
        for item in spoilt + ODD_VALUES:
            with self.subTest(item=item):
                self.same(first_impossible(ABC, [item]), 0)
                self.same(first_impossible(ABC, [item, item]), 0)
        for item in spoilt[:4] + spoilt[6:] + ODD_VALUES:
            self.same(first_impossible(ABC, [(1, "a"), (3, "a"), item, (9, "a"), item]), 2)
        self.same(first_impossible(ABC, [(0, "c"), (True, "a")]), 1)

    def test_ticks_that_are_not_greater(self):
        self.same(first_impossible(ABC, [(0, "b"), (0, "a")]), 1)
        self.same(first_impossible(ABC, [(5, "a"), (9, "a"), (8, "b")]), 2)
        self.same(first_impossible(ABC, [(5, "a"), (4, "b")]), 1)
        self.same(first_impossible(ABC, [(5, "c"), (6, "b"), (6, "a"), (6, "a")]), 2)

    def test_a_call_of_a_greater_rank_is_not_over(self):
        for tick, at in ((1, 1), (2, None), (3, None)):
            self.same(first_impossible(ABC, [(0, "a"), (tick, "b")]), at)
        # a calls b away for two ticks.
        for tick, at in ((4, 2), (5, None)):
            self.same(first_impossible(ABC, [(0, "b"), (1, "a"), (tick, "c")]), at)
        self.same(first_impossible(ABC, [(0, "b"), (1, "a"), (3, "a"), (6, "c")]), 3)
        self.same(first_impossible(ABC, [(0, "b"), (1, "a"), (3, "a"), (7, "c")]), None)

    def test_the_same_line_is_not_over(self):
        for tick, at in ((1, 1), (2, 1), (3, None)):
            self.same(first_impossible(ABC, [(0, "b"), (tick, "b")]), at)
        for tick, at in ((3, 2), (4, 2), (5, None)):
            self.same(first_impossible(ABC, [(0, "b"), (2, "a"), (tick, "b")]), at)

    def test_a_call_beneath_is_not_over(self):
        # b is over ahead of tick 6, c beneath it only ahead of tick 9.
        log = [(0, "c"), (1, "b"), (2, "a"), (4, "a")]
        for tick, line, at in ((5, "b", 4), (8, "b", None), (7, "b", 4), (8, "c", 4), (9, "c", None), (6, "a", None)):
            self.same(first_impossible(ABC, log + [(tick, line)]), at)

    def test_calls_that_take_long(self):
        long = Setup((edge("a", 2, *[("run", 99)] * 8), edge("b", 1, ("run", 1))))
        self.same([first_impossible(long, [(7, "a"), (7 + at, "b")]) for at in (791, 792)], [1, None])

    def test_against_playing(self):
        # All logs of two and three begins in the first ticks.
        setup = plain(("a", 3, 2), ("b", 2, 1))
        items = [(tick, line) for tick in range(6) for line in "ab"]
        for count in (1, 2, 3):
            for log in product(items, repeat=count):
                with self.subTest(log=log):
                    could_be = played_log(setup, list(log)) == list(log)
                    self.assertEqual(first_impossible(setup, list(log)) is None, could_be)


class RingRangesTest(Case):
    def test_none(self):
        self.same(ring_ranges(ABC, []), [])

    def test_a_line_that_can_begin_at_once(self):
        self.same(ring_ranges(ABC, [(0, "a"), (7, "c"), (20, "b")]), [(0, 0), (7, 7), (20, 20)])

    def test_held_up_by_calls(self):
        self.same(ring_ranges(ABC, [(3, "a"), (5, "b"), (8, "c")]), [(3, 3), (3, 5), (3, 8)])
        # A line of a smaller rank that begins meanwhile shows that this one did not wait.
        self.same(ring_ranges(ABC, [(3, "a"), (5, "c"), (6, "b")]), [(3, 3), (3, 5), (6, 6)])
        self.same(ring_ranges(ABC, [(0, "c"), (1, "a"), (3, "b")]), [(0, 0), (1, 1), (1, 3)])

    def test_behind_the_begin_before(self):
        self.same(ring_ranges(ABC, [(0, "b"), (3, "b"), (6, "b")]), [(0, 0), (1, 3), (4, 6)])
        self.same(ring_ranges(ABC, [(0, "a"), (2, "b"), (3, "a"), (5, "a"), (9, "b")]),
                  [(0, 0), (0, 2), (3, 3), (4, 5), (3, 9)])

    def test_one_tick_late(self):
        self.same(ring_ranges(ABC, [(0, "a"), (3, "b")]), [(0, 0), (3, 3)])
        self.same(ring_ranges(ABC, [(0, "b"), (4, "b")]), [(0, 0), (4, 4)])

    def test_far_ticks(self):
        far = 10 ** 6
        self.same(ring_ranges(ABC, [(0, "c"), (far - 2, "a"), (far, "b")]),
                  [(0, 0), (far - 2, far - 2), (far - 2, far)])

    def test_against_playing_each_ring(self):
        dice = Dice(9)
        wide = 0
        for _ in range(150):
            setup = plain(*[(name, rank, 1 + dice.below(4)) for name, rank in (("a", 2), ("b", 7), ("c", 4), ("d", 1))])
            log = thrown_log(setup, dice, 1 + dice.below(9))
            with self.subTest(setup=setup.text, log=log):
                self.same(first_impossible(setup, log), None)
                ranges = ring_ranges(setup, log)
                self.same(ranges, played_ranges(setup, log))
                wide += sum(early < late for early, late in ranges)
        self.assertGreater(wide, 100)

    def test_what_is_returned_is_the_callers(self):
        log = [(0, "b"), (1, "a"), (5, "c")]
        ring_ranges(ABC, log).clear()
        self.same([ring_ranges(ABC, log), log], [[(0, 0), (1, 1), (0, 5)], [(0, "b"), (1, "a"), (5, "c")]])


class ErrorsTest(Case):
    def test_not_plain(self):
        others = (usual(), Setup((level("a", 1, ("run", 1)),)), Setup((edge("a", 1, ("set", 0)),)),
                  plain(("a", 2, 1), ("b", 2, 1)))
        for setup in others:
            for log in ([], [(0, "a")], [None], [(0, "fan")]):
                self.raises(NotPlain, first_impossible, setup, log)
                self.raises(NotPlain, ring_ranges, setup, log)

    def test_invalid_logs(self):
        for log, at in (([None], 0), ([(0, "a"), (0, "b")], 1), ([(0, "a"), (1, "b")], 1), ([(0, "a"), [2, "b"]], 1),
                        ([(0, "a"), (2, "b"), (True, "c"), None], 2), ([(0, "a"), (5, "fan")], 1),
                        ([(3, "a"), (10 ** 6 + 1, "a")], 1)):
            self.raises(InvalidLog, ring_ranges, ABC, log, index=at)
            self.same(first_impossible(ABC, log), at)


if __name__ == "__main__":
    unittest.main()
