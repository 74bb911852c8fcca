"""Point 20: houses played by deeds, logs that are judged, and lines alone."""

import unittest

from callbells.deeds import alone, judge_log, play_deeds
from callbells.errors import BellError, InvalidDeed, InvalidNumber, UnknownLine
from callbells.houses import House
from callbells.setups import Setup
from callbells.single import Single

from helpers import ODD_VALUES, Case, Dice, edge, house_of, level, rung, told, usual
from thrown import thrown_deed, thrown_parts

RUN = ("run", 1)
METHODS = {"set": "set_flag", "clear": "clear_flag"}
DEEDS = [(0, "ring", "net"), (0, "ring", "disk"), (1, "leave", 0), (2, "ring", "heat"), (2, "move", "heat", 1), (4, "come", 0), (4, "set", 3), (6, "ring", "disk")]

# Values that are not formed as deeds with a tick, or have none.
SPOILT = (
    (), (0,), (0, "ring"), (0, "ring", "net", 0), (0, "move", "net"), (0, "move", "net", 0, 0), (0, "leave"), (0, "come", 1, 1),
    (0, "set"), (0, "clear", 1, 2), (0, "Ring", "net"), (0, "stop", "net"), (0, "tick", 1), (0, "set_flag", 1), (0, None, "net"),
    (0, ["ring"], "net"), (0, 1, "net"), [0, "ring", "net"], ("ring", "net"), ("0", "ring", "net"), (-1, "ring", "net"),
    (True, "ring", "net"), (False, "ring", "net"), (None, "ring", "net"), (0.0, "ring", "net"), ((0,), "ring", "net"),
    "ring net", None, 0, True, 5.5, "",
)


def played(house, deeds, ticks):
    """A house of its own on which deeds are done by hand."""
    play = House(house.setup, house.processor_count, routes=house.routes, storms=house.storms)
    for tick in range(ticks + 1):
        for deed in deeds:
            if deed[0] == tick:
                getattr(play, METHODS.get(deed[1], deed[1]))(*deed[2:])
        if tick < ticks:
            play.tick()
    return play


def thrown_play(dice):
    """A house, and deeds that can be done, up to tick 20."""
    setup, count, routes, storms = thrown_parts(dice)
    house = House(setup, count, routes=routes, storms=storms)
    play, deeds = house.copied(), []
    for tick in range(20):
        for _ in range(dice.below(3)):
            deed = thrown_deed(dice, setup, count)
            try:
                getattr(play, METHODS.get(deed[0], deed[0]))(*deed[1:])
                deeds.append((tick, *deed))
            except BellError:
                pass
        play.tick()
    return house, deeds


class PlayTest(Case):
    def test_against_deeds_by_hand(self):
        dice = Dice(77)
        for _ in range(40):
            house, deeds = thrown_play(dice)
            for ticks in (0, 1, 7, 19, 20, 30):
                result = play_deeds(house, deeds, ticks)
                expected = played(house, deeds, ticks)
                self.same([result == expected, told(result)], [True, told(expected)])

    def test_each_deed(self):
        deeds = [(0, "set", 1), (0, "ring", "heat"), (0, "quiet", "heat"), (0, "mask", "net"), (0, "ring", "net"), (1, "unmask", "net")]
        deeds += [(1, "move", "net", 1), (2, "leave", 0), (4, "come", 0), (4, "clear", 1), (5, "set", 2)]
        house = play_deeds(House(usual(), 2), deeds, 5)
        self.same([house.flags_up, house.now, house[0], house("heat")[1]], [[2], 5, ("on", 0, (), ()), False])
        self.same(house.log, [("place", 1, "net", 1), ("begin", 1, "net", 1), ("off", 2, 0), ("end", 3, "net", 1)])

    def test_deeds_of_the_tick_with_the_number_are_done(self):
        house = play_deeds(House(usual(), 2), [(3, "ring", "net"), (3, "set", 1), (4, "set", 2)], 3)
        self.same([house.now, house("net")[2], house.flags_up, house.log], [3, True, [1], []])
        house = play_deeds(House(usual(), 2), [(0, "set", 1), (1, "set", 2)], 0)
        self.same([house.now, house.flags_up], [0, [1]])

    def test_later_deeds_are_not_done(self):
        house = play_deeds(House(usual(), 2), [(3, "ring", "net"), (4, "leave", 9), (10 ** 30, "ring", "nix")], 3)
        self.same(house.rings, [(3, "net")])

    def test_the_house_stays_as_it_is_and_is_taken_as_at_first(self):
        house = rung(House(usual(), 2), "disk")
        house.ticks(3)
        house.leave(1)
        before = told(house)
        result = play_deeds(house, DEEDS, 9)
        self.same(told(house), before)
        self.same(told(result), told(played(house, DEEDS, 9)))
        self.assertIsNot(result, house)
        result.ring("net")
        self.same(told(house), before)
        self.same(play_deeds(house, [], 0) == House(usual(), 2), True)

    def test_deeds_are_not_changed(self):
        deeds = list(DEEDS)
        play_deeds(House(usual(), 2), deeds, 3)
        judge_log(House(usual(), 2), deeds, [("place", 0, "disk", 0)])
        alone(House(usual(), 2), "net", deeds, 3)
        self.same(deeds, DEEDS)

    def test_the_greatest_number(self):
        self.same(play_deeds(House(usual(), 1), [], 1000).now, 1000)


class InvalidDeedTest(Case):
    def wrong(self, index, *deeds):
        house = House(usual(), 2)
        with self.subTest(deeds=deeds):
            self.raises(InvalidDeed, play_deeds, house, list(deeds), 9, index=index)
            self.raises(InvalidDeed, judge_log, house, list(deeds), [("off", 9, 0)], index=index)

    def wrong_form(self, index, *deeds):
        """Neither the end nor the line matters to deeds that are not so formed."""
        self.wrong(index, *deeds)
        with self.subTest(deeds=deeds):
            self.raises(InvalidDeed, play_deeds, House(usual(), 2), list(deeds), 0, index=index)
            self.raises(InvalidDeed, judge_log, House(usual(), 2), list(deeds), [], index=index)
            self.raises(InvalidDeed, alone, House(usual(), 2), "disk", list(deeds), 0, index=index)

    def test_forms(self):
        for value in SPOILT:
            self.wrong_form(0, value)
            self.wrong_form(1, (0, "ring", "net"), value, value)
            self.wrong_form(2, (0, "ring", "net"), (5, "set", 3), value)

    def test_deeds_that_are_earlier_than_the_one_before(self):
        self.wrong_form(1, (1, "ring", "net"), (0, "ring", "net"))
        self.wrong_form(2, (1, "ring", "net"), (50, "ring", "net"), (49, "ring", "net"), (0, "ring", "net"))

    def test_deeds_that_raise_an_error(self):
        deeds = (
            (1, "ring", "nix"), (1, "quiet", "net"), (1, "mask", "flush"), (1, "unmask", 5), (1, "set", 8), (1, "clear", True),
            (1, "leave", 2), (1, "leave", 1), (1, "come", 0), (1, "move", "disk", 0), (1, "move", "net", 7), (1, "ring", None), (1, "ring", ["net"]),
        )
        for deed in deeds:
            self.wrong(1, (0, "leave", 1), deed)
            self.wrong(3, (0, "leave", 1), (1, "come", 1), (1, "leave", 1), deed, deed)

    def test_forms_come_first(self):
        self.wrong_form(1, (0, "leave", 9), (0, "stop"))
        self.wrong_form(1, (5, "ring", "nix"), (4, "ring", "net"))

    def test_the_errors_of_numbers_come_between(self):
        house = House(usual(), 2)
        for ticks in (1001, *ODD_VALUES):
            self.raises(InvalidNumber, play_deeds, house, [(0, "ring", "nix")], ticks)
            self.raises(InvalidDeed, play_deeds, house, [(0, "ring")], ticks, index=0)


class JudgeTest(Case):
    def setUp(self):
        self.house = House(usual(), 2)
        self.log = play_deeds(self.house, DEEDS, 12).log

    def judged(self, log):
        return judge_log(self.house, DEEDS, log)

    def test_whole_logs(self):
        self.same([self.judged(self.log), self.judged([])], [None, None])
        ticks = sorted({event[1] for event in self.log})
        self.assertGreater(len(ticks), 4)
        for tick in ticks:
            self.same(self.judged([event for event in self.log if event[1] <= tick]), None)

    def test_cut_ones(self):
        for many in range(1, len(self.log)):
            whole = self.log[many][1] > self.log[many - 1][1]
            self.same(self.judged(self.log[:many]), None if whole else many)

    def test_events_that_are_changed(self):
        for at, event in enumerate(self.log):
            for change in (
                (event[0], event[1] + 1, *event[2:]), (event[0], event[1] - 1, *event[2:]), (event[0], 1000, *event[2:]),
                (*event[:-1], event[-1] + 1), ("begin" if event[0] != "begin" else "end", *event[1:]), (*event[:2], "nix", *event[3:]),
                list(event), event[:-1], (*event, 0), (event[0], str(event[1]), *event[2:]), (*event[:-1], bool(event[-1])), (*event[:-1], float(event[-1])),
                (event[0], float(event[1]), *event[2:]), (event[0].upper(), *event[1:]), None, 0, "", (), (1,), "place", (event[0], -1, *event[2:]),
                (event[0], 1001, *event[2:]), (event[0], None, *event[2:]), (event[0], [1], *event[2:]), ([event[0]], *event[1:]), (None, *event[1:]),
            ):
                with self.subTest(at=at, change=change):
                    self.same(self.judged([*self.log[:at], change, *self.log[at + 1:]]), at)

    def test_booleans_as_ticks(self):
        log = play_deeds(House(usual(), 1), [(1, "ring", "disk")], 3).log
        deeds = [(1, "ring", "disk")]
        self.same(judge_log(House(usual(), 1), deeds, log), None)
        self.same(judge_log(House(usual(), 1), deeds, [("place", True, "disk", 0), *log[1:]]), 0)
        self.same(judge_log(House(usual(), 1), deeds, [*log[:1], ("begin", 1, "disk", False), *log[2:]]), 1)

    def test_events_that_are_put_in(self):
        for at in range(len(self.log) + 1):
            for event in (("begin", 3, "net", 0), ("off", 0, 1), ("held", 2, "disk"), ("moved", 5, "flush", 1), None):
                with self.subTest(at=at, event=event):
                    self.same(self.judged([*self.log[:at], event, *self.log[at:]]), at)

    def test_events_that_are_left_out(self):
        for at in range(len(self.log) - 1):
            log = [*self.log[:at], *self.log[at + 1:]]
            differing = [k for k, event in enumerate(log) if event != self.log[k]]
            self.same(self.judged(log), differing[0])

    def test_events_that_are_missing_behind(self):
        house = rung(house_of(1, edge("a", 5, RUN), edge("b", 5, RUN)))
        deeds = [(0, "ring", "a"), (0, "ring", "b"), (5, "ring", "a")]
        log = play_deeds(house, deeds, 2).log
        self.same([judge_log(house, deeds, log[:many]) for many in range(1, 7)], [1, 2, 3, None, 5, None])

    def test_all_kinds_of_events(self):
        dice = Dice(8)
        words = set()
        for _ in range(60):
            house, deeds = thrown_play(dice)
            log = play_deeds(house, deeds, 25).log
            self.same(judge_log(house, deeds, log), None)
            words.update([event[0] for event in log])
            for at in range(0, len(log), 5):
                self.same(judge_log(house, deeds, [*log[:at], ("held", log[at][1], "nix"), *log[at + 1:]]), at)
        self.assertEqual(words, {"place", "begin", "end", "done", "moved", "off", "held"})

    def test_moves_by_hand_of_the_last_tick(self):
        house = House(usual(), 2)
        deeds = [(0, "ring", "net"), (0, "move", "net", 1), (1, "ring", "disk"), (1, "move", "disk", 1)]
        log = [("place", 0, "net", 1), ("begin", 0, "net", 1)]
        self.same([judge_log(house, deeds, log), judge_log(house, deeds, log[:1])], [None, 1])
        self.same(judge_log(house, deeds, [*log, ("place", 1, "disk", 1)]), 3)
        self.same(judge_log(house, deeds, [*log, ("place", 1, "disk", 1), ("begin", 1, "disk", 1)]), None)

    def test_a_last_event_of_an_earlier_tick(self):
        # It is the one that cannot be; those ahead of it are as they are to be.
        at = len(self.log) - 1
        self.same(self.judged([*self.log[:at], ("place", 0, "disk", 0)]), at)

    def test_deeds_up_to_the_tick_of_the_last_event(self):
        log = [("off", 2, 0)]
        house = House(usual(), 2)
        deeds = [(2, "leave", 0), (3, "leave", 1), (4, "ring", "nix")]
        self.same(judge_log(house, deeds, log), None)
        self.raises(InvalidDeed, judge_log, house, deeds, [*log, ("end", 3, "net", 0)], index=1)
        self.raises(InvalidDeed, judge_log, house, [(2, "come", 0)], [("off", 2, 0)], index=0)

    def test_the_house_is_taken_as_at_first(self):
        house = rung(House(usual(), 2), "disk")
        house.ticks(5)
        before = told(house)
        self.same([judge_log(house, DEEDS, self.log), told(house)], [None, before])

    def test_ticks_of_logs(self):
        house = House(usual(), 2)
        for tick in (999, 1000):
            self.same(judge_log(house, [(tick, "leave", 0)], [("off", tick, 0)]), None)
        self.same(judge_log(house, [(1001, "leave", 0)], [("off", 1001, 0)]), 0)

    def test_the_log_is_not_changed(self):
        log = list(self.log)
        self.judged(log)
        self.same(log, self.log)


class AloneTest(Case):
    def test_rings_of_the_line(self):
        house = House(usual(), 2)
        self.same(alone(house, "net", [(0, "ring", "net"), (1, "ring", "net"), (2, "ring", "net"), (9, "ring", "net")], 20), [0, 3, 9])
        self.same(alone(house, "net", [], 20), [])

    def test_other_deeds_are_not_done(self):
        house = House(usual(), 2)
        deeds = [(0, "ring", "disk"), (0, "set", 1), (0, "clear", 99), (0, "leave", 7), (0, "come", 0), (0, "ring", "nix"), (1, "move", "net", 0)]
        self.same(alone(house, "net", deeds + [(1, "mask", "disk"), (1, "quiet", "disk"), (2, "ring", "net")], 5), [2])

    def test_masks(self):
        house = House(usual(), 2)
        deeds = [(0, "mask", "disk"), (0, "ring", "disk"), (4, "unmask", "disk"), (5, "mask", "disk"), (5, "ring", "disk")]
        self.same([alone(house, "disk", deeds, 20), alone(house, "disk", deeds[:-2], 20)], [[4], [4]])

    def test_levels(self):
        house = house_of(1, level("a", 5, ("run", 2), ("quiet", "a")))
        self.same(alone(house, "a", [(1, "ring", "a"), (6, "quiet", "a")], 20), [1, 3, 5])
        self.same(alone(house, "a", [(1, "ring", "a")], 6), [1, 3, 5])

    def test_run_steps_alone(self):
        handler = (("await", 3), ("run", 2), ("bar", 9), ("ring", "a"), ("run", 1), ("mask", "a"), ("later", "w"))
        house = house_of(1, edge("a", 1, *handler), works=(("w", 9, 9),))
        self.same(alone(house, "a", [(0, "ring", "a"), (1, "ring", "a"), (8, "ring", "a")], 20), [0, 3, 8])

    def test_a_single_tick_without_run_steps(self):
        house = house_of(1, edge("a", 5, ("await", 0), ("mask", "a")))
        self.same(alone(house, "a", [(0, "ring", "a"), (1, "ring", "a"), (1, "ring", "a"), (2, "ring", "a")], 20), [0, 1, 2])
        self.same(alone(house_of(1, level("a", 5, ("quiet", "a"))), "a", [(2, "ring", "a")], 5), [2, 3, 4])

    def test_the_number_of_ticks(self):
        house = House(usual(), 2)
        deeds = [(0, "ring", "disk"), (3, "ring", "disk")]
        self.same([alone(house, "disk", deeds, ticks) for ticks in (0, 1, 3, 4)], [[], [0], [0], [0, 3]])
        self.same(alone(house, "disk", [(999, "ring", "disk"), (1000, "ring", "disk")], 1000), [999])

    def test_against_a_single_processor(self):
        dice = Dice(3)
        for _ in range(60):
            house, deeds = thrown_play(dice)
            line = house.setup.lines[0]
            runs = tuple([step for step in line[3] if step[0] == "run"]) or (RUN,)
            single, begins = Single(Setup(((*line[:3], runs),))), []
            for tick in range(25):
                for deed in deeds:
                    if deed[0] == tick and deed[1] in ("ring", "quiet", "mask", "unmask") and deed[2] == line[0]:
                        getattr(single, deed[1])(line[0])
                begins.extend([tick for event in single.tick() if event[0] == "begin"])
            self.same(alone(house, line[0], deeds, 25), begins)

    def test_errors_and_their_order(self):
        house = House(usual(), 2)
        for line in ("fan", "flush", *ODD_VALUES):
            self.raises(UnknownLine, alone, house, line, [None], -1, line=line)
        for ticks in (1001, *ODD_VALUES):
            self.raises(InvalidDeed, alone, house, "net", [(0, "ring")], ticks, index=0)
            self.raises(InvalidNumber, alone, house, "net", [(0, "quiet", "net")], ticks)
        self.raises(InvalidDeed, alone, house, "net", [(0, "ring", "disk"), (0, "quiet", "disk"), (1, "quiet", "net")], 5, index=2)
        self.raises(InvalidDeed, alone, house, "net", [(5, "quiet", "net")], 5, index=0)
        self.same(alone(house, "net", [(6, "quiet", "net")], 5), [])

    def test_the_house_stays_as_it_is(self):
        house = rung(House(usual(), 2), "net")
        house.mask("disk")
        before = told(house)
        self.same([alone(house, "disk", [(0, "ring", "disk")], 5), told(house)], [[0], before])


if __name__ == "__main__":
    unittest.main()
