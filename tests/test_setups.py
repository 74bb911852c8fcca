"""Point 2: what set-ups are, and what InvalidSetup tells."""

import unittest

from callbells.errors import InvalidSetup
from callbells.setups import Setup

from helpers import Case, DISK, FLUSH, HEAT, NET, ODD_VALUES, edge, letters, level, usual

RUN = ("run", 1)


def twelve():
    return [edge(name, 5, RUN) for name in letters(12)]


def eight():
    return [(name, 1, 1) for name in letters(8)]


class ValidTest(Case):
    def valid(self, lines, works=()):
        setup = Setup(lines, works)
        self.same(setup.lines, lines)
        self.same(setup.works, works)

    def test_the_usual(self):
        self.valid((NET, DISK, HEAT), (FLUSH,))

    def test_numbers_of_lines_and_works(self):
        self.valid((DISK,))
        self.valid(tuple(twelve()))
        self.valid((DISK,), tuple(eight()))
        self.valid(tuple(twelve()), tuple(eight()))

    def test_works_may_be_left_out_or_named(self):
        self.same(Setup((DISK,)).works, ())
        self.same(Setup(lines=(DISK,), works=(FLUSH,)).works, (FLUSH,))

    def test_names(self):
        self.valid((edge("a", 1, RUN), edge("z", 1, RUN), edge("abcdefgh", 1, RUN)))
        self.valid((DISK,), (("a", 1, 1), ("zzzzzzzz", 1, 1)))

    def test_a_line_and_a_work_may_have_the_same_name(self):
        self.valid((edge("flush", 1, ("later", "flush"), ("ring", "flush")),), (FLUSH,))

    def test_ranks(self):
        self.valid((edge("a", 1, RUN), edge("b", 9, RUN), level("c", 9, RUN)))
        self.valid((DISK,), (("a", 1, 1), ("b", 9, 1)))

    def test_ticks(self):
        self.valid((edge("a", 1, ("run", 1), ("run", 99)),), (("a", 1, 1), ("b", 1, 99)))

    def test_numbers_of_steps(self):
        self.valid((edge("a", 1, RUN), edge("b", 1, *[RUN] * 8)))

    def test_each_kind_of_step(self):
        steps = (("run", 5), ("ring", "b"), ("quiet", "b"), ("mask", "a"), ("unmask", "b"), ("await", 0))
        more = (("set", 0), ("set", 7), ("clear", 0), ("clear", 7), ("await", 7), ("bar", 0), ("bar", 9), ("later", "w"))
        self.valid((edge("a", 1, *steps), level("b", 1, *more)), (("w", 1, 1),))

    def test_steps_may_name_the_line_itself_and_later_lines(self):
        self.valid((level("a", 1, ("ring", "a"), ("quiet", "a"), ("mask", "b")), edge("b", 1, ("ring", "b"))))


class InvalidLinesTest(Case):
    def spoilt(self, index, lines, works=()):
        self.raises(InvalidSetup, Setup, lines, works, part="lines", index=index)

    def spoilt_line(self, line):
        """The line is invalid wherever it stands."""
        with self.subTest(line=line):
            self.spoilt(0, (line,))
            self.spoilt(0, (line, DISK))
            self.spoilt(2, (edge("one", 1, RUN), edge("two", 1, RUN), line, edge("three", 1, RUN)))

    def test_no_tuple(self):
        for lines in (None, [], [DISK], "net", 5, True, False):
            with self.subTest(lines=lines):
                self.spoilt(0, lines)

    def test_empty(self):
        self.spoilt(0, ())

    def test_the_thirteenth(self):
        for more in (1, 2, 5):
            lines = [edge(name, 5, RUN) for name in letters(12 + more)]
            self.spoilt(12, tuple(lines))

    def test_an_earlier_fault_goes_first(self):
        lines = twelve() + [edge("z", 1, RUN)]
        lines[11] = edge("a", 5, RUN)
        self.spoilt(11, tuple(lines))
        lines[4] = None
        self.spoilt(4, tuple(lines))

    def test_no_tuple_of_four(self):
        for line in (None, True, 5, "net", "abcd", list(DISK), (), DISK[:3], DISK + (1,), ("disk",)):
            self.spoilt_line(line)

    def test_names(self):
        names = ("abcdefghi", "Net", "nEt", "net1", "1", "ne t", " net", "net ", "net\n", "n_t", "n-t", "\u00e9t\u00e9", "\u00df")
        for name in names + ODD_VALUES:
            self.spoilt_line((name, "edge", 5, (RUN,)))

    def test_kinds(self):
        for kind in ("", "Edge", "edges", "levels", " level", ("edge",), ["edge"]) + ODD_VALUES:
            self.spoilt_line(("net", kind, 5, (RUN,)))

    def test_ranks(self):
        for rank in (0, 10, -1, 99, "9") + ODD_VALUES:
            self.spoilt_line(("net", "edge", rank, (RUN,)))

    def test_handlers_that_are_no_tuples_of_steps(self):
        for handler in ((), (RUN,) * 9, (RUN,) * 10, [RUN], [], "run", None, 5, True):
            self.spoilt_line(("net", "edge", 5, handler))

    def test_repeated_names(self):
        self.spoilt(1, (DISK, DISK))
        self.spoilt(2, (DISK, NET, level("disk", 1, RUN), NET))
        self.spoilt(3, (DISK, edge("a", 1, RUN), edge("b", 1, RUN), edge("a", 2, RUN)))

    def test_lines_go_before_works_and_handlers(self):
        self.spoilt(1, (edge("a", 5, ("await", 8)), edge("a", 5, RUN)), None)
        self.spoilt(1, (edge("a", 5, ("await", 8)), edge("b", 10, RUN)), (None,))
        self.spoilt(0, None, None)


class InvalidWorksTest(Case):
    def spoilt(self, index, works, lines=(DISK,)):
        self.raises(InvalidSetup, Setup, lines, works, part="works", index=index)

    def spoilt_work(self, work):
        with self.subTest(work=work):
            self.spoilt(0, (work,))
            self.spoilt(2, (("one", 1, 1), ("two", 1, 1), work, ("three", 1, 1)))

    def test_no_tuple(self):
        for works in (None, [], [FLUSH], "flush", 0, 5, True, False):
            with self.subTest(works=works):
                self.spoilt(0, works)

    def test_the_ninth(self):
        for more in (1, 2, 5):
            self.spoilt(8, tuple([(name, 1, 1) for name in letters(8 + more)]))

    def test_an_earlier_fault_goes_first(self):
        works = eight() + [("z", 1, 1)]
        works[7] = ("a", 1, 1)
        self.spoilt(7, tuple(works))
        works[3] = ["b", 1, 1]
        self.spoilt(3, tuple(works))

    def test_no_tuple_of_three(self):
        for work in (None, True, 5, "abc", list(FLUSH), (), FLUSH[:2], FLUSH + (1,), DISK):
            self.spoilt_work(work)

    def test_names(self):
        for name in ("abcdefghi", "Flush", "a1", "a b", "a\n", "\u00e9") + ODD_VALUES:
            self.spoilt_work((name, 2, 4))

    def test_ranks(self):
        for rank in (0, 10) + ODD_VALUES:
            self.spoilt_work(("flush", rank, 4))

    def test_ticks(self):
        for ticks in (0, 100) + ODD_VALUES:
            self.spoilt_work(("flush", 2, ticks))

    def test_repeated_names(self):
        self.spoilt(1, (FLUSH, FLUSH))
        self.spoilt(2, (FLUSH, ("a", 1, 1), ("flush", 1, 1), ("a", 1, 1)))

    def test_works_go_before_handlers(self):
        self.spoilt(1, (FLUSH, FLUSH), (edge("a", 1, ("run", 0)),))
        self.spoilt(0, [FLUSH], (edge("a", 1, ("later", "flush")),))


class InvalidHandlersTest(Case):
    def spoilt(self, index, lines, works=()):
        self.raises(InvalidSetup, Setup, lines, works, part="handlers", index=index)

    def spoilt_step(self, step):
        """The step is invalid wherever it stands, in a set-up with a line of each kind and a work."""
        with self.subTest(step=step):
            heat = level("heat", 1, RUN)
            works = (FLUSH,)
            self.spoilt(0, (edge("net", 1, step), heat), works)
            self.spoilt(1, (heat, edge("net", 1, RUN, ("set", 0), step)), works)
            self.spoilt(0, (edge("net", 1, step, RUN), heat, edge("b", 1, step)), works)
            self.spoilt(1, (heat, edge("net", 1, *[RUN] * 7, step), edge("b", 1, step)), works)

    def test_no_tuple_of_two(self):
        for step in (None, True, 5, "run", "ab", ["run", 1], (), ("run",), ("run", 1, 1), ("await",)):
            self.spoilt_step(step)

    def test_unknown_words(self):
        for word in ("runs", "Run", "halt", "line", "work", "end", "begin", ["run"], ("run",)) + ODD_VALUES:
            for what in (1, "net", "heat", "flush"):
                self.spoilt_step((word, what))

    def test_run(self):
        for ticks in (0, 100, 1000, "net", "flush") + ODD_VALUES:
            self.spoilt_step(("run", ticks))

    def test_lines(self):
        for word in ("ring", "quiet", "mask", "unmask"):
            for line in ("flush", "fan", "Net", 0, 1) + ODD_VALUES:
                self.spoilt_step((word, line))

    def test_an_edge_is_not_made_quiet(self):
        self.spoilt_step(("quiet", "net"))
        self.spoilt(0, (edge("net", 1, ("quiet", "net")),))

    def test_flags(self):
        for word in ("set", "clear", "await"):
            for flag in (8, 9, "net", "flush") + ODD_VALUES:
                self.spoilt_step((word, flag))

    def test_bar(self):
        for rank in (10, 11, 99, "net", "flush") + ODD_VALUES:
            self.spoilt_step(("bar", rank))

    def test_later(self):
        for work in ("net", "heat", "fan", 0, 1) + ODD_VALUES:
            self.spoilt_step(("later", work))

    def test_no_works(self):
        self.spoilt(0, (NET, DISK))
        self.spoilt(1, (DISK, NET), (("flash", 2, 4),))

    def test_a_work_named_like_a_line(self):
        self.spoilt(0, (edge("a", 1, ("later", "a")),), (FLUSH,))
        self.spoilt(0, (edge("a", 1, ("ring", "flush")),), (FLUSH,))


class OrderTest(Case):
    def test_by_rank_then_by_name(self):
        lines = (edge("b", 3, RUN), level("c", 9, RUN), edge("a", 3, RUN), edge("aa", 3, RUN), level("z", 1, RUN), edge("d", 9, RUN))
        self.same(Setup(lines).order, ("c", "d", "a", "aa", "b", "z"))

    def test_the_usual(self):
        self.same(usual().order, ("disk", "net", "heat"))


if __name__ == "__main__":
    unittest.main()
