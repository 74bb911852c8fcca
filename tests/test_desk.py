"""Point 21: desks."""

import unittest

from callbells.desk import Desk, tried
from callbells.errors import AlreadyOn, BellError, InvalidDeed, InvalidFlag, InvalidNumber, LastOne, NotAllowed
from callbells.errors import NotLevel, NotOn, NotWaiting, UnknownLine, UnknownProcessor
from callbells.houses import House

from helpers import ODD_VALUES, Case, Dice, rung, told, usual
from thrown import thrown_deed, thrown_parts

METHODS = {"set": "set_flag", "clear": "clear_flag", "tick": "ticks"}

# Values that are not formed as deeds without a tick.
SPOILT = (
    (), ("ring",), ("ring", "net", 0), ("move", "net"), ("move", "net", 0, 0), ("leave",), ("come", 1, 1), ("set",), ("tick",), ("tick", 1, 1),
    ("Ring", "net"), ("stop",), ("stop", "net"), ("ticks", 1), ("set_flag", 1), (None, "net"), (["ring"], "net"), (1, "net"),
    ["ring", "net"], (0, "ring", "net"), "ring", "ring net", None, 0, True, 5.5, "", {},
)


def by_hand(house, deeds):
    return [getattr(house, METHODS.get(deed[0], deed[0]))(*deed[1:]) for deed in deeds]


def all_of(desk):
    """All that a desk tells, and what can be performed again."""
    undone = 0
    rows = [desk.history, told(desk.house())]
    while desk.redo():
        undone += 1
        rows.append((desk.history, told(desk.house())))
    for _ in range(undone):
        desk.undo()
    return repr(rows)


class DeskCase(Case):
    def refused(self, desk, error, call, *args, **attributes):
        with self.subTest(call=call, args=args):
            before = all_of(desk)
            self.raises(error, call, *args, **attributes)
            self.same(all_of(desk), before)


class DoTest(DeskCase):
    def test_each_deed(self):
        deeds = [("set", 3), ("set", 3), ("clear", 3), ("ring", "heat"), ("quiet", "heat"), ("mask", "net"), ("ring", "net"), ("ring", "net")]
        deeds += [("move", "net", 1), ("unmask", "net"), ("tick", 2), ("leave", 0), ("tick", 0), ("tick", 4), ("come", 0), ("tick", 1000)]
        desk, house = Desk(House(usual(), 2)), House(usual(), 2)
        for at, deed in enumerate(deeds):
            self.same(desk.do(deed), by_hand(house, [deed])[0])
            self.same([desk.history, told(desk.house())], [deeds[:at + 1], told(house)])
        self.same(desk.house() == house, True)

    def test_on_the_house_as_it_is(self):
        house = rung(House(usual(), 2), "net")
        house.ticks(2)
        desk = Desk(house)
        self.same([desk.history, desk.house() == house, desk.undo(), desk.redo()], [[], True, False, False])
        self.same(desk.do(("tick", 1)), [("end", 2, "net", 0)])
        self.same([desk.undo(), desk.undo(), desk.house() == house], [True, False, True])

    def test_the_house_is_not_shared(self):
        house = House(usual(), 2)
        desk = Desk(house)
        house.ring("disk")
        self.same(desk.house().rings, [])
        desk.do(("ring", "net"))
        self.same([house.rings, desk.house().rings], [[(0, "disk")], [(0, "net")]])
        told_one = desk.house()
        told_one.ticks(5)
        told_one.leave(0)
        self.same([told(desk.house()), desk.do(("tick", 1))], [told(rung(House(usual(), 2), "net")), [("place", 0, "net", 0), ("begin", 0, "net", 0)]])

    def test_what_is_told_belongs_to_the_caller(self):
        desk = Desk(House(usual(), 2))
        desk.do(("ring", "net"))
        events = desk.do(("tick", 1))
        events.clear()
        history = desk.history
        history.clear()
        results = desk.apply([("tick", 2)])
        results[0].clear()
        self.same([desk.history, len(desk.house().log)], [[("ring", "net"), ("tick", 1), ("tick", 2)], 3])
        deeds = [("ring", "disk")]
        desk.apply(deeds)
        deeds.clear()
        self.same(desk.history[-1], ("ring", "disk"))

    def test_invalid_forms(self):
        desk = Desk(House(usual(), 2))
        desk.do(("ring", "net"))
        desk.do(("tick", 1))
        desk.undo()
        for value in SPOILT:
            self.refused(desk, InvalidDeed, desk.do, value, index=0)

    def test_invalid_counts(self):
        desk = Desk(House(usual(), 2))
        desk.do(("ring", "net"))
        for count in (-1, 1001, *ODD_VALUES):
            self.refused(desk, InvalidNumber, desk.do, ("tick", count))

    def test_errors_of_deeds(self):
        desk = Desk(House(usual(), 2))
        desk.apply([("ring", "net"), ("tick", 1), ("leave", 1), ("set", 1), ("set", 2)])
        desk.undo()
        self.refused(desk, UnknownLine, desk.do, ("ring", "nix"), line="nix")
        self.refused(desk, UnknownLine, desk.do, ("mask", None), line=None)
        self.refused(desk, NotLevel, desk.do, ("quiet", "net"), line="net")
        self.refused(desk, InvalidFlag, desk.do, ("set", 8))
        self.refused(desk, InvalidFlag, desk.do, ("clear", True))
        self.refused(desk, UnknownProcessor, desk.do, ("leave", 2), processor=2)
        self.refused(desk, NotOn, desk.do, ("leave", 1))
        self.refused(desk, LastOne, desk.do, ("leave", 0))
        self.refused(desk, AlreadyOn, desk.do, ("come", 0))
        self.refused(desk, NotWaiting, desk.do, ("move", "net", 0))
        desk.do(("ring", "disk"))
        self.refused(desk, NotAllowed, desk.do, ("move", "disk", 1))


class ApplyTest(DeskCase):
    def test_results(self):
        desk = Desk(House(usual(), 2))
        deeds = [("ring", "net"), ("tick", 2), ("leave", 1), ("come", 1), ("set", 0)]
        self.same(desk.apply(deeds), ["waits", [("place", 0, "net", 0), ("begin", 0, "net", 0)], [], True, True])
        self.same(desk.history, deeds)
        for left in (4, 3, 2, 1, 0):
            self.same([desk.undo(), desk.history], [True, deeds[:left]])

    def test_without_deeds(self):
        desk = Desk(House(usual(), 2))
        desk.apply([("ring", "net"), ("tick", 1)])
        desk.undo()
        before = all_of(desk)
        self.same([desk.apply([]), all_of(desk) == before, desk.redo(), desk.history], [[], True, True, [("ring", "net"), ("tick", 1)]])

    def test_all_or_none(self):
        desk = Desk(House(usual(), 2))
        desk.apply([("ring", "net"), ("tick", 1)])
        desk.undo()
        self.refused(desk, UnknownProcessor, desk.apply, [("ring", "disk"), ("tick", 3), ("leave", 9), ("ring", "nix")], processor=9)
        self.refused(desk, InvalidNumber, desk.apply, [("ring", "disk"), ("tick", 1001), ("ring", "nix")])
        self.refused(desk, UnknownLine, desk.apply, [("ring", "nix"), ("tick", 1001)], line="nix")

    def test_forms_come_first(self):
        desk = Desk(House(usual(), 2))
        for value in SPOILT:
            self.refused(desk, InvalidDeed, desk.apply, [value], index=0)
            self.refused(desk, InvalidDeed, desk.apply, [("ring", "nix"), ("tick", -1), value, value], index=2)

    def test_a_deed_builds_on_those_before_it(self):
        desk = Desk(House(usual(), 2))
        self.same(desk.apply([("leave", 0), ("tick", 1), ("come", 0), ("leave", 1)])[2:], [False, []])
        self.refused(desk, LastOne, desk.apply, [("tick", 1), ("leave", 0)])


class UndoTest(DeskCase):
    def test_there_and_back(self):
        deeds = [("ring", "net"), ("tick", 2), ("ring", "disk"), ("tick", 1), ("leave", 0), ("tick", 9), ("come", 0)]
        desk, houses = Desk(House(usual(), 2)), [House(usual(), 2)]
        for deed in deeds:
            desk.do(deed)
            houses.append(desk.house())
        for _ in range(2):
            for at in reversed(range(len(deeds))):
                self.same([desk.undo(), desk.history], [True, deeds[:at]])
                self.same([told(desk.house()), desk.house() == houses[at]], [told(houses[at]), True])
            self.same(desk.undo(), False)
            for at in range(len(deeds)):
                self.same([desk.redo(), desk.history], [True, deeds[:at + 1]])
                self.same([told(desk.house()), desk.house() == houses[at + 1]], [told(houses[at + 1]), True])
            self.same(desk.redo(), False)

    def test_redo_behind_another_deed(self):
        desk = Desk(House(usual(), 2))
        desk.apply([("set", 1), ("set", 2), ("set", 3)])
        desk.undo()
        desk.undo()
        self.same([desk.redo(), desk.do(("set", 4)), desk.redo()], [True, True, False])
        self.same([desk.history, desk.house().flags_up], [[("set", 1), ("set", 2), ("set", 4)], [1, 2, 4]])
        self.same([desk.undo(), desk.redo(), desk.redo()], [True, True, False])

    def test_a_deed_that_changes_nothing_is_a_deed(self):
        desk = Desk(House(usual(), 2))
        desk.do(("set", 1))
        desk.undo()
        self.same([desk.do(("tick", 0)), desk.redo(), desk.history, desk.do(("clear", 5)), desk.undo()], [[], False, [("tick", 0)], False, True])

    def test_a_deed_that_raises_an_error_is_none(self):
        desk = Desk(House(usual(), 2))
        desk.do(("set", 1))
        desk.undo()
        self.raises(UnknownLine, desk.do, ("ring", "nix"))
        self.raises(InvalidDeed, desk.do, ("stop",))
        self.same([desk.redo(), desk.history], [True, [("set", 1)]])

    def test_what_was_told_of_the_house_does_not_change(self):
        desk = Desk(House(usual(), 2))
        desk.apply([("ring", "net"), ("tick", 2)])
        house = desk.house()
        before = told(house)
        desk.undo()
        desk.undo()
        desk.do(("mask", "net"))
        self.same(told(house), before)

    def test_thrown_deeds(self):
        dice = Dice(12)
        for _ in range(20):
            setup, count, routes, storms = thrown_parts(dice)
            house = House(setup, count, routes=routes, storms=storms)
            desk, past, future = Desk(house), [], []
            for _ in range(60):
                chosen = dice.below(6)
                if chosen == 0:
                    self.same(desk.undo(), bool(past))
                    future += [past.pop()] if past else []
                elif chosen == 1:
                    self.same(desk.redo(), bool(future))
                    past += [future.pop()] if future else []
                else:
                    deed = ("tick", dice.below(4)) if chosen == 2 else thrown_deed(dice, setup, count)
                    try:
                        desk.do(deed)
                        past, future = [*past, deed], []
                    except BellError:
                        pass
                play = House(setup, count, routes=routes, storms=storms)
                by_hand(play, past)
                self.same([desk.history, told(desk.house())], [past, told(play)])


class BlockTest(DeskCase):
    def desk(self):
        """A desk on which something can be reverted, and something performed again."""
        desk = Desk(House(usual(), 2))
        desk.apply([("ring", "net"), ("tick", 1), ("ring", "disk"), ("set", 1)])
        desk.undo()
        desk.undo()
        return desk

    def change(self, desk):
        desk.undo()
        desk.apply([("set", 5), ("tick", 3)])
        desk.undo()

    def test_everything_is_as_at_the_beginning(self):
        desk = self.desk()
        before = all_of(desk)
        with desk:
            self.change(desk)
            self.same(desk.history, [("ring", "net"), ("set", 5)])
        self.same([all_of(desk), desk.redo(), desk.redo(), desk.redo()], [before, True, True, False])

    def test_also_after_an_error(self):
        desk = self.desk()
        before = all_of(desk)
        with self.assertRaises(KeyError):
            with desk:
                self.change(desk)
                raise KeyError("of the block")
        self.same(all_of(desk), before)
        with self.assertRaises(UnknownLine):
            with desk:
                self.change(desk)
                desk.do(("ring", "nix"))
        self.same(all_of(desk), before)

    def test_blocks_that_are_kept(self):
        for at in range(3):
            desk, other = self.desk(), self.desk()
            with desk:
                self.same(desk.keep() if at == 0 else None, None)
                desk.undo()
                self.same(desk.keep() if at == 1 else None, None)
                desk.apply([("set", 5), ("tick", 3)])
                desk.undo()
                self.same(desk.keep() if at == 2 else None, None)
            self.change(other)
            self.same(all_of(desk), all_of(other))

    def test_a_block_that_is_kept_twice(self):
        desk, other = self.desk(), self.desk()
        with desk:
            desk.keep()
            self.change(desk)
            desk.keep()
        self.change(other)
        self.same(all_of(desk), all_of(other))

    def test_kept_blocks_with_an_error(self):
        desk, other = self.desk(), self.desk()
        with self.assertRaises(KeyError):
            with desk:
                desk.keep()
                self.change(desk)
                raise KeyError("of the block")
        self.change(other)
        self.same(all_of(desk), all_of(other))

    def test_each_block_is_kept_by_itself(self):
        desk = self.desk()
        with desk:
            desk.keep()
            desk.do(("set", 6))
        before = all_of(desk)
        with desk:
            desk.do(("set", 7))
        self.same(all_of(desk), before)

    def test_blocks_in_blocks(self):
        desk = self.desk()
        first = all_of(desk)
        with desk:
            desk.do(("set", 5))
            second = all_of(desk)
            with desk:
                desk.do(("set", 6))
                with desk:
                    desk.undo()
                    desk.undo()
            self.same(all_of(desk), second)
        self.same(all_of(desk), first)

    def test_a_kept_block_in_a_block(self):
        desk = self.desk()
        first = all_of(desk)
        with desk:
            desk.do(("set", 5))
            with desk:
                desk.do(("set", 6))
                desk.keep()
            self.same(desk.history[-2:], [("set", 5), ("set", 6)])
        self.same(all_of(desk), first)

    def test_a_block_in_a_kept_block(self):
        desk = self.desk()
        with desk:
            desk.keep()
            desk.do(("set", 5))
            with desk:
                desk.do(("set", 6))
        self.same(desk.history[-1], ("set", 5))

    def test_an_error_through_blocks(self):
        desk = self.desk()
        first = all_of(desk)
        with self.assertRaises(InvalidDeed):
            with desk:
                desk.do(("set", 5))
                with desk:
                    desk.keep()
                    desk.do(("set", 6))
                    desk.do(("stop",))
        self.same(all_of(desk), first)

    def test_an_error_that_is_caught_in_the_block(self):
        desk = self.desk()
        with desk:
            desk.keep()
            try:
                with desk:
                    desk.do(("set", 5))
                    desk.do(("stop",))
            except InvalidDeed:
                desk.do(("set", 6))
        self.same(desk.history, [("ring", "net"), ("tick", 1), ("set", 6)])

    def test_keep_outside_of_blocks(self):
        desk = self.desk()
        before = all_of(desk)
        self.same([desk.keep(), all_of(desk)], [None, before])
        with desk:
            desk.do(("set", 5))
        self.same(all_of(desk), before)

    def test_a_name_for_the_desk(self):
        desk = self.desk()
        with desk as held:
            self.assertIs(held, desk)


class TriedTest(DeskCase):
    def desk(self):
        desk = Desk(House(usual(), 2))
        desk.apply([("ring", "net"), ("tick", 1), ("set", 1)])
        desk.undo()
        return desk

    def test_not_kept(self):
        desk = self.desk()
        before = all_of(desk)
        deeds = [("tick", 2), ("ring", "disk"), ("set", 3)]
        expected = self.desk().apply(deeds)
        self.same([tried(desk, deeds), all_of(desk)], [expected, before])
        self.same([tried(desk, deeds, is_kept=False), all_of(desk)], [expected, before])
        self.same(tried(desk, []), [])

    def test_kept(self):
        desk, other = self.desk(), self.desk()
        deeds = [("tick", 2), ("ring", "disk")]
        self.same(tried(desk, deeds, is_kept=True), other.apply(deeds))
        self.same([all_of(desk), desk.undo(), desk.history], [all_of(other), True, [("ring", "net"), ("tick", 1), ("tick", 2)]])

    def test_no_deeds_that_are_kept(self):
        desk = self.desk()
        before = all_of(desk)
        self.same([tried(desk, [], is_kept=True), all_of(desk)], [[], before])

    def test_errors(self):
        desk = self.desk()
        for is_kept in (False, True):
            before = all_of(desk)
            with self.assertRaises(InvalidDeed) as caught:
                tried(desk, [("ring", "nix"), ("stop",)], is_kept=is_kept)
            self.same([caught.exception.index, all_of(desk)], [1, before])
            with self.assertRaises(UnknownLine):
                tried(desk, [("tick", 1), ("ring", "nix")], is_kept=is_kept)
            with self.assertRaises(InvalidNumber):
                tried(desk, [("tick", 1), ("tick", 1001)], is_kept=is_kept)
            self.same(all_of(desk), before)

    def test_in_a_block(self):
        desk = self.desk()
        before = all_of(desk)
        with desk:
            tried(desk, [("set", 3)], is_kept=True)
            self.same(desk.history[-1], ("set", 3))
        self.same(all_of(desk), before)

    def test_is_kept_is_given_by_name(self):
        with self.assertRaises(TypeError):
            tried(self.desk(), [], True)


class InterfaceTest(Case):
    def test_all_methods_are_its_own(self):
        for name in ("house", "do", "apply", "undo", "redo", "keep", "__enter__", "__exit__", "__init__"):
            self.assertIn(name, Desk.__dict__)
        self.assertIsInstance(Desk.__dict__["history"], property)


if __name__ == "__main__":
    unittest.main()
