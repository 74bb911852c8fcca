"""Points 17 and 18: weavings, and the steps that can be left out of them."""

import copy
import unittest

from callbells.errors import InvalidMove, InvalidNumber, InvalidRings, NotEdges, TooMany
from callbells.setups import Setup
from callbells.weave import Weave
from callbells.weaving import needless_steps, play_weaving, weaving_ends

from helpers import ODD_VALUES, Case, Dice, edge, letters, usual
from thrown import thrown_step

RUN = ("run", 1)
PAIR = Setup((edge("a", 2, ("await", 0), RUN), edge("b", 1, ("set", 0))))


class Play:
    """A weaving that is played by the words of the document."""

    def __init__(self, setup, count, rings):
        self.names, self.count = [line[0] for line in setup.lines], count
        self.lines = {line[0]: line for line in setup.lines}
        self.ranks = {work[0]: work[1] for work in setup.works}
        self.waits, self.masked, self.flags = set(), set(), set()
        self.begins = {name: 0 for name in self.lines}
        # Lists [line, step, kept bar].
        self.calls = [[] for _ in range(count)]
        self.bars = [0] * count
        self.works = [[] for _ in range(count)]
        for line in rings:
            self.waits.add(line)

    def behind(self, move):
        play = copy.deepcopy(self)
        play.do(move)
        return play

    def moves(self):
        under_way = [call[0] for calls in self.calls for call in calls]
        moves = []
        for line in self.waits - self.masked:
            for p in range(self.count):
                floor = max([self.bars[p]] + [self.lines[call[0]][2] for call in self.calls[p][-1:]])
                if line not in under_way and self.lines[line][2] > floor:
                    moves.append(("begin", line, p))
        for p in range(self.count):
            if self.calls[p]:
                word, what = self.lines[self.calls[p][-1][0]][3][self.calls[p][-1][1]]
                if word != "await" or what in self.flags:
                    moves.append(("step", p))
            elif self.works[p]:
                moves.append(("step", p))
        return sorted(moves)

    def do(self, move):
        if move[0] == "begin":
            _, line, p = move
            self.waits.remove(line)
            self.begins[line] += 1
            self.calls[p].append([line, 0, self.bars[p]])
        elif self.calls[move[1]]:
            self.step(move[1])
        else:
            works = self.works[move[1]]
            works.remove(sorted(works, key=lambda work: -self.ranks[work])[0])

    def step(self, p):
        call = self.calls[p][-1]
        word, what = self.lines[call[0]][3][call[1]]
        if word in ("ring", "set"):
            {"ring": self.waits, "set": self.flags}[word].add(what)
        elif word in ("clear", "unmask"):
            {"clear": self.flags, "unmask": self.masked}[word].discard(what)
        elif word == "mask":
            self.masked.add(what)
        elif word == "bar":
            self.bars[p] = what
        elif word == "later" and what not in self.works[p]:
            self.works[p].append(what)
        call[1] += 1
        if call[1] == len(self.lines[call[0]][3]):
            self.calls[p].pop()
            self.bars[p] = call[2]

    def key(self):
        return repr((sorted(self.waits), sorted(self.masked), sorted(self.flags), self.begins, self.calls, self.bars, self.works))

    def end(self):
        stuck = tuple([p for p in range(self.count) if self.calls[p]])
        if stuck:
            return ("stuck", stuck)
        return ("rest", tuple(sorted(self.flags)), tuple([self.begins[name] for name in self.names]))


def searched(setup, count, rings, most):
    """The ends with their moves, and the number of states; None if there are more than most."""
    start = Play(setup, count, rings)
    lists, seen, ends = [([], start)], {start.key()}, {}
    while lists:
        longer = []
        for moves, play in lists:
            options = play.moves()
            if not options and play.end() not in ends:
                ends[play.end()] = moves
            for move in options:
                following = play.behind(move)
                if following.key() not in seen:
                    seen.add(following.key())
                    longer.append(([*moves, move], following))
        if len(seen) > most:
            return None
        lists = sorted(longer, key=lambda row: row[0])
    return sorted(ends.items()), len(seen)


def states(setup, count, rings):
    """All states, as they stand for each other in the program."""
    weave = Weave(setup, count)
    found = [weave.first_state(rings)]
    for state in found:
        for move in weave.moves_from(state):
            if weave.state_behind(state, move) not in found:
                found.append(weave.state_behind(state, move))
    return found


def thrown_weaving(dice, works_alone=False):
    names = letters(1 + dice.below(3))
    works = tuple([(name, 1 + dice.below(3), 1 + dice.below(4)) for name in letters(dice.below(3))])
    lines = []
    for name in names:
        steps = [thrown_step(dice, names, [], [work[0] for work in works]) for _ in range(1 + dice.below(3))]
        if works_alone and works:
            steps = [("later", dice.one_of(works)[0]) for _ in steps]
        lines.append(edge(name, 1 + dice.below(9), *steps))
    rings = tuple([dice.one_of(names) for _ in range(dice.below(4))])
    return Setup(tuple(reversed(lines)), works), 1 + dice.below(2), rings


class EndsTest(Case):
    def test_against_all_moves(self):
        dice = Dice(17)
        kinds = set()
        for _ in range(120):
            setup, count, rings = thrown_weaving(dice)
            found = searched(setup, count, rings, 150)
            if found is not None:
                ends = weaving_ends(setup, count, rings)
                self.same(ends, found[0])
                for end, moves in ends:
                    self.same(play_weaving(setup, count, rings, moves), end)
                    kinds.add((end[0], len(ends) > 1))
        self.assertEqual(kinds, {("rest", False), ("rest", True), ("stuck", False), ("stuck", True)})

    def test_the_states_against_all_moves(self):
        # Works do nothing, so their order is seen by the states alone.
        dice = Dice(18)
        counts = []
        for _ in range(150):
            setup, count, rings = thrown_weaving(dice, works_alone=dice.below(2) == 0)
            found = searched(setup, count, rings, 150)
            if found is not None:
                self.same(len(states(setup, count, rings)), found[1])
                counts.append(found[1])
        self.assertGreater(max(counts), 100)

    def test_works_are_done_one_by_one(self):
        handler = (("later", "x"), ("later", "y"), ("later", "z"))
        for ranks in ((3, 2, 1), (1, 2, 3), (1, 1, 1)):
            works = tuple([(name, rank, 9) for name, rank in zip("xyz", ranks)])
            moves = [("begin", "a", 0)] + [("step", 0)] * 6
            self.same(weaving_ends(Setup((edge("a", 5, *handler),), works), 1, ("a",)), [(("rest", (), (1,)), moves)])

    def test_the_greatest_flag(self):
        setup = Setup((edge("a", 5, ("await", 7)), edge("b", 6, ("set", 7))))
        self.same([end for end, _ in weaving_ends(setup, 1, ("a",))], [("stuck", (0,))])
        self.same([end for end, _ in weaving_ends(setup, 1, ("a", "b"))], [("rest", (7,), (1, 1))])

    def test_nothing_rings(self):
        self.same(weaving_ends(PAIR, 3, ()), [(("rest", (), (0, 0)), [])])

    def test_runs_and_works_take_one_step(self):
        setup = Setup((edge("a", 5, ("run", 99), ("later", "x"), ("later", "y"), ("later", "x")),), (("x", 1, 99), ("y", 2, 50)))
        moves = [("begin", "a", 0)] + [("step", 0)] * 6
        self.same(weaving_ends(setup, 1, ("a",)), [(("rest", (), (1,)), moves)])

    def test_the_order_of_begins_is_that_of_the_set_up(self):
        lines = (edge("low", 1, ("ring", "mid")), edge("top", 9, RUN), edge("mid", 5, ("ring", "top")))
        ends = weaving_ends(Setup(lines), 1, ("low", "top"))
        self.same([end for end, _ in ends], [("rest", (), (1, 1, 1)), ("rest", (), (1, 2, 1))])

    def test_flags_are_ascending(self):
        ends = weaving_ends(Setup((edge("a", 5, ("set", 7), ("set", 2), ("set", 0), ("clear", 2)),)), 1, ("a",))
        self.same([end for end, _ in ends], [("rest", (0, 7), (1,))])

    def test_rings_are_merged(self):
        setup = Setup((edge("a", 5, ("ring", "b"), ("ring", "b")), edge("b", 1, RUN)))
        self.same([end for end, _ in weaving_ends(setup, 1, ("a", "a", "a"))], [("rest", (), (1, 1))])
        self.same([end for end, _ in weaving_ends(setup, 2, ("a", "a"))], [("rest", (), (1, 1)), ("rest", (), (1, 2))])
        self.same([end for end, _ in weaving_ends(setup, 2, ("a", "b"))], [("rest", (), (1, 1)), ("rest", (), (1, 2)), ("rest", (), (1, 3))])

    def test_processors_with_calls(self):
        lines = (edge("a", 5, ("await", 0)), edge("b", 6, ("await", 1)))
        self.same([end for end, _ in weaving_ends(Setup(lines), 1, ("a", "b"))], [("stuck", (0,))])
        ends = weaving_ends(Setup(lines), 3, ("a", "b"))
        self.same([end for end, _ in ends], [("stuck", (processors)) for processors in ((0,), (0, 1), (0, 2), (1,), (1, 2), (2,))])
        self.same(ends[1], (("stuck", (0, 1)), [("begin", "a", 0), ("begin", "b", 1)]))

    def test_the_shortest_moves_and_of_these_the_first(self):
        lines = (edge("a", 5, RUN, ("set", 0)), edge("b", 5, ("set", 0)))
        self.same(weaving_ends(Setup(lines), 2, ("a",)), [(("rest", (0,), (1, 0)), [("begin", "a", 0), ("step", 0), ("step", 0)])])
        moves = [("begin", "a", 0), ("begin", "b", 1), ("step", 0), ("step", 0), ("step", 1)]
        self.same(weaving_ends(Setup(lines), 2, ("b", "a")), [(("rest", (0,), (1, 1)), moves)])

    def test_bars_and_ranks(self):
        lines = (edge("a", 2, ("bar", 5), ("await", 0)), edge("b", 5, ("set", 0)), edge("c", 2, RUN))
        ends = [end for end, _ in weaving_ends(Setup(lines), 1, ("a", "b", "c"))]
        self.same(ends, [("rest", (0,), (1, 1, 1)), ("stuck", (0,))])
        ends = [end for end, _ in weaving_ends(Setup(lines), 2, ("a", "b", "c"))]
        self.same(ends, [("rest", (0,), (1, 1, 1))])

    def test_a_bar_is_that_of_before_behind_the_call(self):
        lines = (edge("a", 2, ("bar", 3), RUN, ("await", 0)), edge("b", 4, ("bar", 9)), edge("c", 4, ("set", 0)))
        ends = [end for end, _ in weaving_ends(Setup(lines), 1, ("a", "b", "c"))]
        self.same(ends, [("rest", (0,), (1, 1, 1))])

    def test_masked_lines_wait(self):
        lines = (edge("a", 2, ("mask", "b")), edge("b", 1, ("unmask", "b")))
        self.same([end for end, _ in weaving_ends(Setup(lines), 1, ("a", "b"))], [("rest", (), (1, 0)), ("rest", (), (1, 1))])

    def test_lines_are_enabled_again(self):
        lines = (edge("a", 2, ("mask", "c"), ("ring", "c"), ("ring", "b")), edge("b", 1, ("unmask", "c")), edge("c", 1, RUN))
        self.same([end for end, _ in weaving_ends(Setup(lines), 1, ("a",))], [("rest", (), (1, 1, 1))])

    def test_one_call_of_a_line(self):
        setup = Setup((edge("a", 2, ("ring", "a"), ("await", 0)),))
        self.same([end for end, _ in weaving_ends(setup, 2, ("a",))], [("stuck", (0,)), ("stuck", (1,))])

    def test_calls_go_ahead_of_works(self):
        setup = Setup((edge("a", 2, ("later", "w"), ("await", 0)),), (("w", 9, 1),))
        self.same(weaving_ends(setup, 1, ("a",)), [(("stuck", (0,)), [("begin", "a", 0), ("step", 0)])])


class TooManyTest(Case):
    def test_a_line_that_rings_itself(self):
        self.raises(TooMany, weaving_ends, Setup((edge("a", 5, ("ring", "a")),)), 1, ("a",))

    def wide(self, runs, *lines, works=()):
        """A weaving in which a first line takes so many steps ahead of those that ring the others."""
        rings = [("ring", line[0]) for line in lines]
        return Setup((edge("start", 9, *[RUN] * runs, *rings), *lines), works), 1, ("start",)

    def only_runs(self, runs):
        sizes = ((3, 2), (1, 2), (1, 2), (3, 7), (1, 5), (3, 6))
        return self.wide(runs, *[edge(name, rank, *[RUN] * many) for name, (rank, many) in zip(letters(6), sizes)])

    def with_works(self, runs):
        posts = (edge("a", 3, RUN, ("later", "x")), edge("b", 3, RUN, ("later", "y")))
        others = [edge(name, 2, *[RUN] * many) for name, many in zip("cdef", (3, 5, 3, 4))]
        return self.wide(runs, *posts, *others, works=(("x", 1, 1), ("y", 2, 1)))

    def test_the_edge(self):
        self.same([searched(*self.only_runs(runs), 3500)[1] for runs in (1, 2)], [3000, 3001])
        ends = weaving_ends(*self.only_runs(1))
        self.same([ends[0][0], len(ends)], [("rest", (), (1,) * 7), 1])
        self.raises(TooMany, weaving_ends, *self.only_runs(2))
        self.raises(TooMany, needless_steps, *self.only_runs(2))
        self.same(needless_steps(*self.only_runs(1)), [])

    def test_works_left_in_another_order_are_another_state(self):
        # Their ranks are different, so they are done in the same order all the same.
        self.same([searched(*self.with_works(runs), 3500)[1] for runs in (1, 2)], [3000, 3001])
        self.same([end for end, _ in weaving_ends(*self.with_works(1))], [("rest", (), (1,) * 7)])
        self.raises(TooMany, weaving_ends, *self.with_works(2))


class PlayTest(Case):
    def test_the_end_or_none(self):
        self.same(play_weaving(PAIR, 1, (), []), ("rest", (), (0, 0)))
        self.same(play_weaving(PAIR, 1, ("a", "b"), [("begin", "b", 0)]), None)
        self.same(play_weaving(PAIR, 1, ("a", "b"), [("begin", "b", 0), ("step", 0)]), None)
        self.same(play_weaving(PAIR, 1, ("b",), [("begin", "b", 0), ("step", 0)]), ("rest", (0,), (0, 1)))
        self.same(play_weaving(PAIR, 2, ("a", "b"), [("begin", "a", 1)]), None)

    def test_moves_that_need_not_be_the_shortest(self):
        moves = [("begin", "a", 1), ("begin", "b", 0), ("step", 0), ("step", 1), ("step", 1)]
        self.same(play_weaving(PAIR, 2, ("a", "b"), moves), ("rest", (0,), (1, 1)))

    def test_far_more_states_than_may_be_met(self):
        moves = [("begin", "a", 0), ("step", 0)] * 4000
        setup = Setup((edge("a", 5, ("ring", "a")),))
        self.same(play_weaving(setup, 1, ("a",), moves), None)
        self.raises(InvalidMove, play_weaving, setup, 1, ("a",), [*moves, ("step", 0)], index=8000)

    def wrong(self, index, *moves, count=2, setup=PAIR, rings=("a", "b")):
        with self.subTest(moves=moves):
            self.raises(InvalidMove, play_weaving, setup, count, rings, list(moves), index=index)

    def test_moves_that_cannot_be_done(self):
        self.wrong(0, ("step", 0))
        self.wrong(0, ("begin", "a", 2))
        self.wrong(0, ("begin", "a", -1))
        self.wrong(0, ("begin", "c", 0))
        self.wrong(0, ("begin", "a", 0), rings=("b",))
        self.wrong(1, ("begin", "a", 0), ("begin", "a", 1))
        self.wrong(1, ("begin", "a", 0), ("begin", "b", 0))
        self.wrong(1, ("begin", "a", 0), ("step", 0))
        self.wrong(1, ("begin", "a", 0), ("step", 1))
        self.wrong(1, ("begin", "a", 0), ("step", 0), None)
        self.wrong(2, ("begin", "b", 0), ("step", 0), ("step", 0))
        self.wrong(3, ("begin", "b", 0), ("step", 0), ("begin", "a", 0), ("begin", "b", 1))

    def test_moves_behind_the_end(self):
        self.wrong(1, ("begin", "a", 0), ("step", 0), count=1, rings=("a",))
        self.wrong(0, ("step", 0), rings=())

    def test_other_forms(self):
        forms = (["begin", "b", 0], ("begin", "b"), ("begin", "b", 0, 0), ("begin", "b", True), ("begin", "b", False), ("begin", "b", 0.0))
        for value in (*forms, ("begin", ["b"], 0), ("begin", None, 0), ("Begin", "b", 0), ("ring", "b"), *ODD_VALUES):
            self.wrong(0, value)
        for value in (["step", 1], ("step",), ("step", 1, 1), ("step", True), ("step", 1.0), ("step", "1"), ("step", None), (True, 1)):
            self.wrong(1, ("begin", "b", 1), value)


class NeedlessTest(Case):
    def test_against_each_step_left_out(self):
        dice = Dice(23)
        told = 0
        for _ in range(150):
            setup, count, rings = thrown_weaving(dice)
            try:
                ends = [end for end, _ in weaving_ends(setup, count, rings)]
                expected = [step for step in guards(setup) if ends == [end for end, _ in weaving_ends(without(setup, *step), count, rings)]]
            except TooMany:
                self.raises(TooMany, needless_steps, setup, count, rings)
            else:
                self.same(needless_steps(setup, count, rings), sorted(expected))
                told += len(expected)
        self.assertGreater(told, 20)

    def test_the_only_step_is_not_left_out(self):
        self.same(needless_steps(Setup((edge("a", 5, ("mask", "a")),)), 1, ("a",)), [])
        self.same(needless_steps(Setup((edge("a", 5, ("mask", "a"), ("mask", "a")),)), 1, ("a",)), [("a", 0), ("a", 1)])

    def test_ascending(self):
        lines = (edge("b", 5, ("bar", 3), RUN, ("mask", "c"), ("bar", 0)), edge("a", 5, RUN, ("unmask", "b")), edge("c", 1, RUN))
        self.same(needless_steps(Setup(lines), 1, ("b", "a")), [("a", 1), ("b", 0), ("b", 2), ("b", 3)])

    def test_other_steps_are_not_told(self):
        lines = (edge("a", 5, RUN, ("set", 0), ("set", 0), ("ring", "b"), ("ring", "b"), ("clear", 3)), edge("b", 1, RUN))
        self.same(needless_steps(Setup(lines), 1, ("a",)), [])

    def test_steps_that_are_needed(self):
        # Without the bar, b can begin above a, and then a awaits what b has cleared.
        lines = (edge("a", 1, ("bar", 5), ("set", 0), ("await", 0)), edge("b", 5, ("clear", 0)))
        self.same(needless_steps(Setup(lines), 1, ("a", "b")), [])
        self.same(needless_steps(Setup(lines), 1, ("a",)), [("a", 0)])

    def test_too_many_without_a_step(self):
        # The mask stops a line that would ring itself again and again.
        lines = (edge("a", 5, ("mask", "a"), ("ring", "a")),)
        self.same([end for end, _ in weaving_ends(Setup(lines), 1, ("a",))], [("rest", (), (1,))])
        self.raises(TooMany, needless_steps, Setup(lines), 1, ("a",))

    def test_too_many_with_it(self):
        self.raises(TooMany, needless_steps, Setup((edge("a", 5, ("ring", "a"), RUN),)), 1, ("a",))


def guards(setup):
    """The steps that may be left out, as (line, index)."""
    rows = [(line[0], at, step[0], len(line[3])) for line in setup.lines for at, step in enumerate(line[3])]
    return [(name, at) for name, at, word, many in rows if word in ("mask", "unmask", "bar") and many > 1]


def without(setup, name, at):
    lines = [line if line[0] != name else edge(name, line[2], *line[3][:at], *line[3][at + 1:]) for line in setup.lines]
    return Setup(tuple(lines), setup.works)


class ErrorsTest(Case):
    def wrong(self, error, *args, **told):
        with self.subTest(args=args):
            self.raises(error, weaving_ends, *args, **told)
            self.raises(error, needless_steps, *args, **told)
            self.raises(error, play_weaving, *args, [None], **told)

    def test_levels(self):
        self.wrong(NotEdges, usual(), 1, ())
        self.wrong(NotEdges, usual(), 0, ("fan",))
        self.wrong(NotEdges, usual(), None, None)

    def test_numbers_of_processors(self):
        for count in (0, 7, *ODD_VALUES):
            self.wrong(InvalidNumber, PAIR, count, ())
            self.wrong(InvalidNumber, PAIR, count, ("fan",))
        self.same(weaving_ends(PAIR, 6, ()), [(("rest", (), (0, 0)), [])])

    def test_rings(self):
        for line in ("c", "A", *ODD_VALUES):
            self.wrong(InvalidRings, PAIR, 1, (line,), index=0)
            self.wrong(InvalidRings, PAIR, 1, ("a", "b", line, line), index=2)
        self.wrong(InvalidRings, PAIR, 1, ("a",) * 7, index=6)
        self.wrong(InvalidRings, PAIR, 1, ("a",) * 5 + ("c", "a"), index=5)
        for rings in (["a"], "a", None, {"a": 1}):
            self.wrong(InvalidRings, PAIR, 1, rings, index=0)
        self.same(len(weaving_ends(PAIR, 1, ("a",) * 6)), 1)

    def test_too_many_comes_last(self):
        endless = Setup((edge("a", 5, ("ring", "a")),))
        self.wrong(InvalidRings, endless, 1, ("a", "b"), index=1)
        self.raises(TooMany, weaving_ends, endless, 1, ("a",))
        self.same(play_weaving(endless, 1, ("a",), []), None)

    def test_what_is_told_belongs_to_the_caller(self):
        ends = weaving_ends(PAIR, 1, ("a",))
        ends[0][1].clear()
        ends.clear()
        self.same(weaving_ends(PAIR, 1, ("a",)), [(("stuck", (0,)), [("begin", "a", 0)])])
        moves = [("begin", "a", 0)]
        play_weaving(PAIR, 1, ("a",), moves)
        self.same(moves, [("begin", "a", 0)])


if __name__ == "__main__":
    unittest.main()
