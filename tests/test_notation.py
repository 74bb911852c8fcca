"""Point 22: the texts of houses."""

import unittest

from callbells.errors import InvalidHouse, InvalidSetup, NotationError
from callbells.houses import House
from callbells.notation import format_house, parse_house
from callbells.setups import Setup

from helpers import Case, Dice, edge, letters, rung, told, usual
from thrown import thrown_parts

NET = "line net edge 5 run 3"
HEAT = "line heat level 2 run 1 quiet heat"
FLUSH = "work flush 2 4"
TEXT = "\n".join([NET, HEAT, FLUSH, "processors 3", "route net least 0 1", "route heat turn 2", "storm net 5 20 40", "storm heat 1 2 3"])


class FormatTest(Case):
    def test_rows(self):
        routes = (("net", "least", (1, 0)), ("heat", "turn", (2,)), ("disk", "first", (2, 0, 1)))
        storms = (("disk", 1, 5, 3), ("net", 99, 99, 99))
        rows = [usual().text, "processors 3", "route net least 1 0", "route heat turn 2", "route disk first 2 0 1", "storm disk 1 5 3", "storm net 99 99 99"]
        self.same(format_house(House(usual(), 3, routes=routes, storms=storms)), "\n".join(rows))
        self.same(format_house(House(usual(), 1)), usual().text + "\nprocessors 1")
        self.same(format_house(House(usual(), 6, storms=storms)), "\n".join([usual().text, "processors 6", *rows[-2:]]))

    def test_a_house_that_has_gone_on(self):
        routes, storms = (("net", "turn", (1, 0)),), (("net", 1, 5, 3),)
        house = rung(House(usual(), 2, routes=routes, storms=storms), "net", "disk")
        text = format_house(house)
        house.ticks(5)
        house.leave(0)
        before = told(house)
        self.same([format_house(house), told(house)], [text, before])
        again = parse_house(text)
        self.same([again == house, again == House(usual(), 2, routes=routes, storms=storms), again.now], [False, True, 0])


class ParseTest(Case):
    def test_there_and_back(self):
        dice = Dice(64)
        for _ in range(100):
            setup, count, routes, storms = thrown_parts(dice)
            house = House(setup, count, routes=routes, storms=storms)
            again = parse_house(format_house(house))
            self.assertIsInstance(again, House)
            self.same([again == house, format_house(again)], [True, format_house(house)])
            self.same([again.routes, again.storms, again.processor_count], [routes, storms, count])

    def test_the_greatest_house(self):
        names = letters(12)
        setup = Setup(tuple([edge(name, 9, *[("run", 99)] * 8) for name in names]), tuple([(name, 9, 99) for name in names[:8]]))
        routes = tuple([(name, "turn", (5, 4, 3, 2, 1, 0)) for name in names])
        house = House(setup, 6, routes=routes, storms=tuple([(name, 99, 99, 99) for name in names]))
        self.same(parse_house(format_house(house)) == house, True)

    def test_values(self):
        house = parse_house(TEXT)
        self.same([house.setup.lines[0], house.setup.works, house.processor_count], [edge("net", 5, ("run", 3)), (("flush", 2, 4),), 3])
        self.same([house.routes, house.storms], [(("net", "least", (0, 1)), ("heat", "turn", (2,))), (("net", 5, 20, 40), ("heat", 1, 2, 3))])
        self.same([house.log, house.now, format_house(house)], [[], 0, TEXT])

    def test_names_that_are_words_of_rows(self):
        lines = tuple([edge(name, 1, ("ring", "line")) for name in ("line", "work", "route", "storm", "first", "turn")])
        routes = (("route", "first", (0,)), ("storm", "turn", (1, 0)), ("first", "first", (1,)))
        house = House(Setup(lines, (("work", 1, 1),)), 2, routes=routes, storms=(("route", 1, 2, 3), ("line", 1, 1, 1)))
        self.same(parse_house(format_house(house)) == house, True)


class NotationTest(Case):
    def wrong(self, row, word, *rows):
        with self.subTest(rows=rows):
            self.raises(NotationError, parse_house, "\n".join(rows), row=row, word=word)

    def wrong_row(self, word, row):
        """The row is wrong behind the processors, behind others, and ahead of one that is worse."""
        self.wrong(2, word, NET, "processors 2", row)
        self.wrong(3, word, NET, "processors 2", "route net first 0", row)
        self.wrong(2, word, NET, "processors 2", row, "mess")

    def wrong_count(self, word, row):
        self.wrong(1, word, NET, row)
        self.wrong(2, word, NET, FLUSH, row)
        self.wrong(1, word, NET, row, "mess")

    def test_empty_texts_and_rows(self):
        self.wrong(0, 0, "")
        self.wrong(0, 0, "", NET)
        self.wrong(1, 0, NET, "")
        self.wrong(1, 0, NET, "", "processors 2")
        self.wrong(2, 0, NET, "processors 2", "")
        self.wrong(3, 0, NET, "processors 2", "storm net 1 1 1", "")

    def test_the_rows_of_the_set_up(self):
        self.wrong(0, 0, "processors 2")
        self.wrong(0, 0, FLUSH, NET, "processors 2")
        self.wrong(0, 5, "line net edge 5 run", "processors 2")
        self.wrong(1, 2, NET, "line heat edges 2 run 1", "processors 2")
        self.wrong(1, 4, NET, "work flush 2 4 5", "processors x")
        self.wrong(2, 0, NET, FLUSH, HEAT, "processors 2")
        self.wrong(0, 0, "Line net edge 5 run 3", "processors 2")

    def test_no_row_of_processors(self):
        self.wrong(1, 0, NET)
        self.wrong(3, 0, NET, HEAT, FLUSH)
        # Routes and storms cannot stand in its place.
        self.wrong(1, 0, NET, "route net first 0")
        self.wrong(2, 0, NET, FLUSH, "storm net 1 1 1", "processors 2")

    def test_rows_of_processors(self):
        self.wrong_count(1, "processors")
        self.wrong_count(1, "processors ")
        self.wrong_count(2, "processors 2 ")
        self.wrong_count(2, "processors 2 3")
        self.wrong_count(1, "processors  2")
        self.wrong_count(0, "processor 2")
        self.wrong_count(0, " processors 2")
        for word in ("two", "-1", "+1", "02", "00", "1000", "2.", "1_0"):
            self.wrong_count(1, "processors " + word)

    def test_first_words(self):
        for word in ("processors", "line", "work", "Route", "storms", "tick", "0", "#"):
            self.wrong_row(0, word)
            self.wrong_row(0, word + " net edge 5 run 3")
        self.wrong_row(0, "processors 2")
        self.wrong_row(0, " route net first 0")

    def test_routes(self):
        self.wrong_row(1, "route")
        self.wrong_row(1, "route ")
        self.wrong_row(1, "route Net first 0")
        self.wrong_row(1, "route n1 first 0")
        self.wrong_row(1, "route  net first 0")
        self.wrong_row(2, "route net")
        self.wrong_row(2, "route net last 0")
        self.wrong_row(2, "route net First 0")
        self.wrong_row(2, "route net 0")
        self.wrong_row(2, "route net  first 0")
        self.wrong_row(3, "route net first")
        self.wrong_row(3, "route net turn ")
        self.wrong_row(3, "route net least x")
        self.wrong_row(4, "route net first 0 ")
        self.wrong_row(4, "route net first 0 x")
        self.wrong_row(5, "route net first 0 1 01 x")
        self.wrong_row(4, "route net first 0 -1")
        self.wrong_row(6, "route net first 0 1 2 1000 5")

    def test_storms(self):
        self.wrong_row(1, "storm")
        self.wrong_row(1, "storm 1 1 1")
        self.wrong_row(2, "storm net")
        self.wrong_row(2, "storm net first 0")
        self.wrong_row(3, "storm net 1")
        self.wrong_row(4, "storm net 1 1")
        self.wrong_row(4, "storm net 1 1 ")
        self.wrong_row(4, "storm net 1 1 x")
        self.wrong_row(3, "storm net 1 01 1")
        self.wrong_row(5, "storm net 1 1 1 1")
        self.wrong_row(5, "storm net 1 1 1 ")
        self.wrong_row(3, "storm net 1  1 1")

    def test_routes_stand_ahead_of_storms(self):
        self.wrong(3, 0, NET, "processors 2", "storm net 1 1 1", "route net first 0")

    def test_characters(self):
        self.wrong(1, 1, NET, "processors \u0663")
        self.wrong(1, 1, NET, "processors \u00b2")
        self.wrong_row(1, "route n\u00e9t first 0")
        self.wrong(1, 0, NET, "processors\t2")
        self.wrong(1, 1, NET, "processors 2\r")

    def test_notation_comes_first(self):
        self.wrong(3, 2, NET, NET, "processors 9", "route net last 0")
        self.wrong(2, 0, NET, NET)


    def test_what_is_no_text(self):
        for value in (None, True, 5, [], ["line"], (NET,), b"line"):
            self.raises(NotationError, parse_house, value, row=0, word=0)
            self.raises(NotationError, Setup.parse, value, row=0, word=0)


class ValueTest(Case):
    def test_set_ups(self):
        self.raises(InvalidSetup, parse_house, "\n".join([NET, NET, "processors 9"]), part="lines", index=1)
        self.raises(InvalidSetup, parse_house, "line net edge 10 run 3\nprocessors 9", part="lines", index=0)
        self.raises(InvalidSetup, parse_house, "line net edge 9\nprocessors 2\nroute fan first 7", part="lines", index=0)
        self.raises(InvalidSetup, parse_house, "\n".join([NET, "work flush 2 100", "processors 9"]), part="works", index=0)
        self.raises(InvalidSetup, parse_house, "line net edge 5 run 999\nprocessors 0", part="handlers", index=0)

    def house(self, part, index, *rows):
        self.raises(InvalidHouse, parse_house, "\n".join([NET, HEAT, *rows]), part=part, index=index)

    def test_houses(self):
        self.house("count", -1, "processors 0")
        self.house("count", -1, "processors 7", "route fan first 9")
        self.house("count", -1, "processors 999")
        self.house("routes", 0, "processors 2", "route fan first 0")
        self.house("routes", 0, "processors 2", "route verylongname first 0")
        self.house("routes", 1, "processors 2", "route net first 0", "route net first 1")
        self.house("routes", 0, "processors 2", "route net first 2", "storm net 0 0 0")
        self.house("routes", 0, "processors 2", "route net first 0 0")
        self.house("storms", 0, "processors 2", "storm net 0 1 1")
        self.house("storms", 1, "processors 2", "storm net 1 1 1", "storm heat 1 1 100")
        self.house("storms", 1, "processors 2", "storm net 1 1 1", "storm net 1 1 1")


if __name__ == "__main__":
    unittest.main()
