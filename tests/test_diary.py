"""Point 23: diaries."""

import unittest

from callbells.errors import BellError, DiaryError
from callbells.houses import House
from callbells.notation import Diary

from helpers import Case, Dice, edge, house_of, rung, told, usual
from thrown import thrown_deed, thrown_parts

RUN = ("run", 1)
METHODS = {"set": "set_flag", "clear": "clear_flag", "tick": "ticks"}


def in_words(result):
    """A result as the document tells it, written anew."""
    if result is True or result is False:
        return {True: "yes", False: "no"}[result]
    if result is None or result == []:
        return "-"
    if isinstance(result, list):
        if isinstance(result[0], tuple):
            return ", ".join(" ".join(map(str, event)) for event in result)
        return " ".join(result)
    return str(result)


class ToldTest(Case):
    def told(self, house, *rows):
        """The results of rows, which stand behind them."""
        diary = Diary(house, "\n".join(rows))
        results = []
        for row, text in zip(rows, diary.told.split("\n"), strict=True):
            self.assertTrue(text.startswith(row + ": "), text)
            results.append(text[len(row) + 2:])
        return results

    def test_each_kind_of_row(self):
        rows = ("ring net", "ring net", "ring heat", "quiet heat", "quiet heat", "mask disk", "mask disk", "unmask disk", "unmask disk")
        self.same(self.told(House(usual(), 2), *rows), ["waits", "merged", "waits", "yes", "no", "yes", "no", "yes", "no"])
        self.same(self.told(House(usual(), 2), "set 3", "set 3", "clear 3", "clear 3", "set 0"), ["yes", "no", "yes", "no", "yes"])
        self.same(self.told(House(usual(), 3), "leave 1", "come 1", "leave 1", "tick 1", "come 1"), ["-", "yes", "-", "off 0 1", "no"])

    def test_moves(self):
        self.same(self.told(House(usual(), 2), "ring net", "move net 1", "move net 0", "move net 0"), ["waits", "-", "1", "0"])

    def test_lines_that_are_not_placed_any_more(self):
        house = House(usual(), 2)
        rows = ("ring net", "ring disk", "move net 0", "leave 0", "come 0", "move net 0", "move disk 0", "leave 0")
        self.same(self.told(house, *rows)[3:], ["net", "yes", "-", "-", "disk net"])

    def test_events(self):
        lines = (edge("a", 5, ("set", 0), ("later", "w")), edge("b", 9, ("run", 3)))
        house = house_of(2, *lines, works=(("w", 1, 2),), storms=(("a", 1, 9, 2),))
        rows = ("ring a", "tick 1", "ring a", "tick 1", "tick 2", "ring a", "tick 1", "leave 0", "tick 1", "tick 1000")
        self.same(self.told(house, *rows), [
            "waits", "place 0 a 0, begin 0 a 0, end 0 a 0",
            "waits", "place 1 a 0, begin 1 a 0, held 1 a, end 1 a 0, done 1 w 0",
            "done 3 w 0", "waits", "place 4 a 0, begin 4 a 0, held 4 a, end 4 a 0",
            "-", "done 5 w 0, off 5 0", "-",
        ])
        self.same(self.told(house_of(2, *lines, works=(("w", 1, 2),)), "ring a", "tick 1", "leave 0", "ring a", "mask a", "tick 3"), [
            "waits", "place 0 a 0, begin 0 a 0, end 0 a 0", "-", "waits", "yes", "done 1 w 0, off 1 0",
        ])

    def test_moved_works(self):
        rows = ("ring net", "tick 1", "leave 0", "tick 3")
        self.same(self.told(House(usual(), 2), *rows)[-1], "end 2 net 0, off 2 0, moved 2 flush 1")

    def test_the_empty_text(self):
        house = rung(House(usual(), 2), "net")
        diary = Diary(house, "")
        self.same([diary.told, diary.house() == house], ["", True])

    def test_thrown_deeds(self):
        dice = Dice(30)
        for _ in range(30):
            setup, count, routes, storms = thrown_parts(dice)
            house = House(setup, count, routes=routes, storms=storms)
            play, rows, texts = house.copied(), [], []
            for _ in range(40):
                deed = ("tick", 1 + dice.below(3)) if dice.below(3) == 0 else thrown_deed(dice, setup, count)
                try:
                    result = getattr(play, METHODS.get(deed[0], deed[0]))(*deed[1:])
                except BellError:
                    self.raises(DiaryError, Diary, house, "\n".join([*rows, " ".join(map(str, deed)), "mess"]), row=len(rows))
                else:
                    rows.append(" ".join(map(str, deed)))
                    texts.append(rows[-1] + ": " + in_words(result))
            diary = Diary(house, "\n".join(rows))
            self.same([diary.told, told(diary.house()), diary.house() == play], ["\n".join(texts), told(play), True])


class HouseTest(Case):
    def test_the_house_stays_as_it_is(self):
        house = rung(House(usual(), 2), "net")
        before = told(house)
        diary = Diary(house, "tick 5\nleave 0")
        self.same(told(house), before)
        house.ring("disk")
        self.same([diary.house().now, diary.house().rings, diary.house()[0][0]], [5, [(0, "net")], "leaving"])

    def test_on_the_house_as_it_is(self):
        house = rung(House(usual(), 2), "net")
        house.ticks(2)
        self.same(Diary(house, "tick 1").told, "tick 1: end 2 net 0")

    def test_a_house_of_its_own(self):
        diary = Diary(House(usual(), 2), "ring net\ntick 1")
        house = diary.house()
        before = told(house)
        house.ticks(9)
        house.leave(1)
        self.same([told(diary.house()), diary.told], [before, "ring net: waits\ntick 1: place 0 net 0, begin 0 net 0"])
        self.assertIsNot(diary.house(), diary.house())

    def test_methods_are_its_own(self):
        self.assertIn("house", Diary.__dict__)
        self.assertIsInstance(Diary.__dict__["told"], property)


class ErrorsTest(Case):
    def wrong(self, row):
        with self.subTest(row=row):
            self.raises(DiaryError, Diary, House(usual(), 2), row, row=0)
            self.raises(DiaryError, Diary, House(usual(), 2), "ring disk\ntick 1\n" + row + "\nmess", row=2)

    def test_words(self):
        for row in (
            "stop", "Ring net", "ring", "ring ", "ring net ", " ring net", "ring  net", "ring net 0", "ring 5", "ring n1", "ring Net", "ring n\u00e9t",
            "tick", "tick ", "tick 1 1", "tick net", "ticks 1", "set", "set net", "set 3 4", "leave net", "leave", "come", "come one",
            "move net", "move 0 net", "move net 0 0", "move net net", "place 0 net 0", "0 ring net", "set_flag 3", "quiet", "mask 1", "unmask 2", "clear x",
            "ring net: waits", "#", "\t", "ring\tnet", "tick 1\r",
        ):
            self.wrong(row)

    def test_empty_rows(self):
        for text, row in (("\n", 0), ("ring net\n", 1), ("\nring net", 0), ("ring net\n\ntick 1", 1)):
            self.raises(DiaryError, Diary, House(usual(), 2), text, row=row)

    def test_integers(self):
        for word in ("0", "00", "01", "0001", "1001", "9999", "10000", "12345", "-1", "+1", "1.0", "1_0", "\u0663", "\u00b2", "1e1"):
            self.wrong("tick " + word)
        for word in ("03", "00", "+3", "-3", "00003", "3.", "\u0663"):
            self.wrong("set " + word)
            self.wrong("leave " + word)
            self.wrong("move disk " + word)
        house = House(usual(), 2)
        self.same([Diary(house, "tick 1000").house().now, Diary(house, "tick 1").house().now, Diary(house, "set 0").house().flags_up], [1000, 1, [0]])

    def test_rows_that_raise_an_error(self):
        for row in (
            "ring nix", "ring verylongname", "quiet net", "quiet nix", "mask nix", "unmask flush", "set 8", "clear 9999", "leave 2", "leave 9999",
            "come 0", "come 2", "move disk 0", "move nix 0", "move net 2",
        ):
            self.wrong(row)
        house = House(usual(), 2)
        self.raises(DiaryError, Diary, house, "leave 0\nleave 0", row=1)
        self.raises(DiaryError, Diary, house, "leave 0\nleave 1", row=1)
        self.raises(DiaryError, Diary, house, "ring net\nleave 0\nmove net 0", row=2)

    def test_what_is_no_text(self):
        for value in (None, True, 5, [], ["tick 1"], ("tick 1",), b"tick 1"):
            self.raises(DiaryError, Diary, House(usual(), 2), value, row=0)

    def test_the_first_row_of_all_kinds(self):
        house = House(usual(), 2)
        self.raises(DiaryError, Diary, house, "tick 1\nring nix\nstop", row=1)
        self.raises(DiaryError, Diary, house, "tick 1\nstop\nring nix", row=1)

    def test_how_many_rows(self):
        house = House(usual(), 2)
        rows = ["ring net", "tick 1"] * 100
        self.same(len(Diary(house, "\n".join(rows)).told.split("\n")), 200)
        for last in ("tick 1", "stop", ""):
            self.raises(DiaryError, Diary, house, "\n".join([*rows, last]), row=200)
        self.raises(DiaryError, Diary, house, "\n".join(["tick 1"] * 250), row=200)
        self.raises(DiaryError, Diary, house, "\n".join([*rows[:199], "stop", "tick 1"]), row=199)

    def test_the_house_stays_as_it_is(self):
        house = House(usual(), 2)
        self.raises(DiaryError, Diary, house, "ring net\ntick 3\nstop", row=2)
        self.same(told(house), told(House(usual(), 2)))


if __name__ == "__main__":
    unittest.main()
