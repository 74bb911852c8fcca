"""Point 3: the signs, properties and methods of set-ups."""

import unittest

from callbells.errors import InvalidSetup, UnknownLine
from callbells.setups import Setup

from helpers import Case, DISK, FLUSH, HEAT, NET, ODD_VALUES, edge, letters, level, usual

RUN = ("run", 1)
STRANGERS = ("fan", "Net", "net ", "flush", "abcdefghi", 0, 1, 7) + ODD_VALUES


class SignsTest(Case):
    def test_len(self):
        self.same(len(usual()), 3)
        self.same(len(Setup((DISK,), (FLUSH,))), 1)
        self.same(len(Setup(tuple([edge(name, 1, RUN) for name in letters(12)]))), 12)

    def test_in(self):
        for name in ("net", "disk", "heat"):
            self.same(name in usual(), True)
        for name in STRANGERS + (NET, [DISK]):
            with self.subTest(name=name):
                self.same(name in usual(), False)
                self.same(name not in usual(), True)

    def test_lines_by_name(self):
        self.same(usual()["net"], NET)
        self.same(usual()["disk"], DISK)
        self.same(usual()["heat"], HEAT)

    def test_unknown_lines(self):
        for name in STRANGERS + (-3, NET):
            with self.subTest(name=name):
                self.raises(UnknownLine, lambda: usual()[name], line=name)

    def test_equal(self):
        self.same(usual() == usual(), True)
        self.same(usual() != usual(), False)
        setup = usual()
        self.same(setup == setup, True)

    def test_not_equal(self):
        others = (
            Setup((DISK, NET, HEAT), (FLUSH,)),
            Setup((NET, DISK), (FLUSH,)),
            Setup((NET, DISK, HEAT), (FLUSH, ("other", 1, 1))),
            Setup((NET, DISK, HEAT), (("flush", 2, 5),)),
            Setup((NET, DISK, HEAT), (("flush", 3, 4),)),
            Setup((NET, edge("disk", 7, ("run", 3)), HEAT), (FLUSH,)),
            Setup((NET, edge("disk", 8, ("run", 2)), HEAT), (FLUSH,)),
            Setup((NET, level("disk", 7, ("run", 2)), HEAT), (FLUSH,)),
            Setup((NET, edge("disc", 7, ("run", 2)), HEAT), (FLUSH,)),
        )
        for other in others:
            with self.subTest(text=other.text):
                self.same(usual() == other, False)
                self.same(other == usual(), False)
                self.same(usual() != other, True)

    def test_the_order_of_works_counts(self):
        one = Setup((DISK,), (("a", 1, 1), ("b", 1, 1)))
        self.same(one == Setup((DISK,), (("b", 1, 1), ("a", 1, 1))), False)

    def test_nothing_else_is_equal(self):
        setup = usual()
        for other in (setup.lines, (setup.lines, setup.works), setup.text, setup.order, 3, None, True, [], "net"):
            with self.subTest(other=other):
                self.same(setup == other, False)
                self.same(setup != other, True)

    def test_without_a_line(self):
        less = usual() - "net"
        self.assertIsInstance(less, Setup)
        self.same(less.lines, (DISK, HEAT))
        self.same(less.works, (FLUSH,))
        self.same((less - "heat").lines, (DISK,))
        self.same((usual() - "heat").lines, (NET, DISK))

    def test_taking_away_changes_nothing(self):
        setup = usual()
        less = setup - "net"
        self.same(setup == usual(), True)
        self.same(less == setup, False)

    def test_without_an_unknown_line(self):
        for name in STRANGERS:
            with self.subTest(name=name):
                self.raises(UnknownLine, lambda: usual() - name, line=name)

    def test_without_the_only_line(self):
        setup = Setup((DISK,), (FLUSH,))
        self.raises(InvalidSetup, lambda: setup - "disk", part="lines", index=0)
        self.raises(UnknownLine, lambda: setup - "net", line="net")

    def test_without_a_line_that_a_handler_names(self):
        named = level("c", 1, RUN)
        for word in ("ring", "quiet", "mask", "unmask"):
            setup = Setup((named, edge("a", 1, RUN), edge("b", 1, (word, "c"))))
            # The index is that in the set-up without the line.
            self.raises(InvalidSetup, lambda: setup - "c", part="handlers", index=1)
            self.same((setup - "a").lines, (named, edge("b", 1, (word, "c"))))

    def test_without_a_line_that_only_its_own_handler_names(self):
        self.same((usual() - "heat").order, ("disk", "net"))

    def test_not_iterated(self):
        setup = usual()
        for call in (iter, list, tuple, sorted):
            with self.assertRaises(TypeError):
                call(setup)
        with self.assertRaises(TypeError):
            for _ in setup:
                pass


class PropertiesTest(Case):
    def test_lines_and_works(self):
        self.same(usual().lines, (NET, DISK, HEAT))
        self.same(usual().works, (FLUSH,))
        self.same(Setup((DISK,)).works, ())

    def test_order(self):
        self.same(usual().order, ("disk", "net", "heat"))
        self.same(usual().with_rank("net", 7).order, ("disk", "net", "heat"))
        self.same(usual().with_rank("heat", 7).order, ("disk", "heat", "net"))

    def test_they_are_properties_that_cannot_be_assigned(self):
        for name in ("lines", "works", "order", "is_plain", "text"):
            self.assertIsInstance(Setup.__dict__[name], property)

    def test_plain(self):
        plain = (edge("a", 1, RUN, ("run", 9)), edge("b", 2, RUN), edge("c", 9, ("run", 99)))
        self.same(Setup(plain).is_plain, True)
        self.same(Setup(plain, (FLUSH,)).is_plain, True)
        self.same(Setup(plain[:1]).is_plain, True)
        self.same(Setup((edge("a", 1, RUN), edge("b", 2, RUN))).is_plain, True)

    def test_not_plain(self):
        self.same(Setup((edge("a", 1, RUN), level("b", 2, RUN))).is_plain, False)
        self.same(Setup((level("a", 1, RUN), edge("b", 2, RUN))).is_plain, False)
        self.same(Setup((edge("a", 1, RUN), edge("b", 2, RUN), edge("c", 1, RUN))).is_plain, False)
        self.same(Setup((edge("a", 4, RUN), edge("b", 4, ("run", 2)))).is_plain, False)
        self.same(usual().is_plain, False)

    def test_each_other_step_is_not_plain(self):
        steps = (("ring", "b"), ("mask", "b"), ("unmask", "b"), ("set", 0), ("clear", 0), ("await", 0), ("bar", 0), ("later", "flush"))
        for step in steps:
            for handler in ((step,), (step, RUN), (RUN, step), (RUN, RUN, step, RUN)):
                with self.subTest(handler=handler):
                    self.same(Setup((edge("a", 1, *handler), edge("b", 2, RUN)), (FLUSH,)).is_plain, False)
                    self.same(Setup((edge("b", 1, RUN), edge("a", 2, *handler)), (FLUSH,)).is_plain, False)

    def test_class_values(self):
        self.same((Setup.MAX_LINES, Setup.MAX_WORKS, Setup.MAX_FLAG), (12, 8, 7))
        self.same((usual().MAX_LINES, usual().MAX_WORKS, usual().MAX_FLAG), (12, 8, 7))


class MethodsTest(Case):
    def test_with_rank(self):
        setup = usual()
        changed = setup.with_rank("disk", 1)
        self.assertIsInstance(changed, Setup)
        self.same(changed.lines, (NET, edge("disk", 1, ("run", 2)), HEAT))
        self.same(changed.works, (FLUSH,))
        self.same(setup == usual(), True)

    def test_with_each_rank(self):
        for rank in range(1, 10):
            self.same(usual().with_rank("heat", rank)["heat"], level("heat", rank, ("run", 1), ("quiet", "heat")))
        self.same(usual().with_rank("net", 5) == usual(), True)

    def test_with_a_wrong_rank(self):
        for rank in (0, 10) + ODD_VALUES:
            for index, line in enumerate(("net", "disk", "heat")):
                with self.subTest(rank=rank, line=line):
                    self.raises(InvalidSetup, usual().with_rank, line, rank, part="lines", index=index)

    def test_with_rank_of_an_unknown_line(self):
        for name in STRANGERS:
            with self.subTest(name=name):
                self.raises(UnknownLine, usual().with_rank, name, 5, line=name)
                self.raises(UnknownLine, usual().with_rank, name, 10, line=name)
                self.raises(UnknownLine, usual().with_rank, name, None, line=name)

    def test_ticks_of(self):
        self.same([usual().ticks_of(name) for name in ("net", "disk", "heat")], [3, 2, 1])
        long = edge("a", 1, ("run", 99), ("set", 7), ("run", 98), ("bar", 9), ("await", 6), ("later", "flush"), ("run", 1))
        setup = Setup((long, edge("b", 1, ("set", 7), ("await", 7), ("bar", 5))), (FLUSH,))
        self.same([setup.ticks_of("a"), setup.ticks_of("b")], [198, 0])

    def test_touched_by_each_step(self):
        for word in ("ring", "quiet", "mask", "unmask"):
            setup = Setup((edge("a", 1, (word, "b")), level("b", 1, RUN)))
            self.same([setup.touched_by("a"), setup.touched_by("b")], [["b"], []])

    def test_touched_by_no_other_step(self):
        steps = (RUN, ("set", 1), ("clear", 1), ("await", 1), ("bar", 1), ("later", "a"))
        self.same(Setup((edge("a", 1, *steps),), (("a", 1, 1),)).touched_by("a"), [])

    def test_touched_by_in_the_order_of_the_lines_each_once(self):
        steps = (("unmask", "low"), ("ring", "self"), ("mask", "high"), ("quiet", "mid"), ("ring", "mid"), ("mask", "low"))
        lines = (edge("self", 5, *steps), level("mid", 5, RUN), edge("low", 1, RUN), edge("high", 9, RUN), edge("not", 6, RUN))
        self.same(Setup(lines).touched_by("self"), ["high", "mid", "self", "low"])

    def test_touched_by_is_the_caller_s_own_list(self):
        setup = usual()
        setup.touched_by("heat").append("net")
        self.same(setup.touched_by("heat"), ["heat"])

    def test_unknown_lines(self):
        for name in STRANGERS:
            with self.subTest(name=name):
                self.raises(UnknownLine, usual().ticks_of, name, line=name)
                self.raises(UnknownLine, usual().touched_by, name, line=name)


if __name__ == "__main__":
    unittest.main()
