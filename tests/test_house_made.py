"""Point 10: what houses are made of."""

import unittest

from callbells.errors import InvalidHouse
from callbells.houses import House
from callbells.setups import Setup

from helpers import ODD_VALUES, Case, edge, letters, usual

ROUTES = (("net", "turn", (2, 0)), ("heat", "least", (1,)), ("disk", "first", (0, 1, 2)))
STORMS = (("disk", 1, 99, 1), ("net", 99, 1, 99))


def made(count=3, routes=(), storms=()):
    return House(usual(), count, routes=routes, storms=storms)


class MadeTest(Case):
    def test_properties(self):
        setup = usual()
        house = House(setup, 3, routes=ROUTES, storms=STORMS)
        self.assertIs(house.setup, setup)
        self.same([house.processor_count, house.routes, house.storms], [3, ROUTES, STORMS])
        for name in ("setup", "processor_count", "routes", "storms"):
            self.assertIsInstance(House.__dict__[name], property)

    def test_without_routes_and_storms(self):
        house = House(usual(), 1)
        self.same([house.processor_count, house.routes, house.storms], [1, (), ()])

    def test_properties_remain(self):
        house = made(3, ROUTES, STORMS)
        house.ring("disk")
        house.leave(0)
        house.ticks(9)
        self.same([house.processor_count, house.routes, house.storms], [3, ROUTES, STORMS])

    def test_each_count(self):
        for count in range(1, 7):
            self.same([made(count).processor_count, len(made(count))], [count, count])

    def test_routes_and_storms_are_given_by_name(self):
        with self.assertRaises(TypeError):
            House(usual(), 3, ROUTES)

    def test_as_many_routes_as_lines(self):
        setup = Setup(tuple([edge(name, 1, ("run", 1)) for name in letters(12)]))
        routes = tuple([(name, "turn", (5, 4, 3, 2, 1, 0)) for name in reversed(letters(12))])
        storms = tuple([(name, 1, 1, 1) for name in letters(12)])
        house = House(setup, 6, routes=routes, storms=storms)
        self.same([house.routes, house.storms], [routes, storms])


class InvalidTest(Case):
    def wrong(self, part, index, *args, **named):
        with self.subTest(args=args, named=named):
            self.raises(InvalidHouse, lambda: House(usual(), *args, **named), part=part, index=index)

    def test_counts(self):
        for count in (0, 7, *ODD_VALUES):
            self.wrong("count", -1, count)

    def test_no_tuples(self):
        for value in (None, True, 1, "net", [], [("net", "turn", (0,))], {}):
            self.wrong("routes", -1, 2, routes=value)
            self.wrong("storms", -1, 2, storms=value)

    def test_the_order_of_parts(self):
        self.wrong("count", -1, 0, routes=None, storms=None)
        self.wrong("routes", -1, 1, routes=None, storms=None)
        self.wrong("routes", 0, 1, routes=(1,), storms=None)

    def spoilt_route(self, route):
        self.wrong("routes", 0, 3, routes=(route,))
        self.wrong("routes", 1, 3, routes=(("heat", "first", (0,)), route))
        self.wrong("routes", 1, 3, routes=(("heat", "first", (0,)), route, None, route))

    def test_routes_of_another_form(self):
        self.spoilt_route(["net", "turn", (0, 1)])
        self.spoilt_route(("net", "turn"))
        self.spoilt_route(("net", "turn", (0, 1), 2))
        self.spoilt_route(("net", "turn", 0))
        self.spoilt_route(("net", "turn", 0, 1))
        for value in ODD_VALUES:
            self.spoilt_route(value)

    def test_lines_of_routes(self):
        for line in ("fan", "Net", b"net", *ODD_VALUES):
            self.spoilt_route((line, "turn", (0, 1)))

    def test_rules_of_routes(self):
        for rule in ("last", "First", "turn ", b"turn", ("turn",), *ODD_VALUES):
            self.spoilt_route(("net", rule, (0, 1)))

    def test_processors_of_routes(self):
        for processors in ((), [0, 1], (0, 0), (1, 2, 1), (3,), (0, 3), (-1,), (0, True), (False,), (0, 1.0), (0, None), ("0",), ((0,),), ([0],)):
            self.spoilt_route(("net", "turn", processors))
        for value in ODD_VALUES:
            if value != (5,):
                self.spoilt_route(("net", "turn", value))
                self.spoilt_route(("net", "turn", (0, value)))

    def test_processors_are_below_the_count(self):
        self.wrong("routes", 0, 1, routes=(("net", "first", (1,)),))
        self.wrong("routes", 1, 2, routes=(("net", "first", (1,)), ("disk", "first", (1, 2))))
        self.same(made(6, (("net", "first", (5,)),)).routes, (("net", "first", (5,)),))

    def test_lines_with_two_routes(self):
        self.wrong("routes", 1, 2, routes=(("net", "turn", (0,)), ("net", "turn", (0,))))
        self.wrong("routes", 2, 2, routes=(("net", "turn", (0,)), ("disk", "turn", (0,)), ("net", "first", (1,)), ("disk", "turn", (0,))))

    def spoilt_storm(self, storm):
        self.wrong("storms", 0, 3, storms=(storm,))
        self.wrong("storms", 1, 3, routes=ROUTES, storms=(("heat", 1, 1, 1), storm))
        self.wrong("storms", 1, 3, storms=(("heat", 1, 1, 1), storm, storm))

    def test_storms_of_another_form(self):
        self.spoilt_storm(["net", 1, 2, 3])
        self.spoilt_storm(("net", 1, 2))
        self.spoilt_storm(("net", 1, 2, 3, 4))
        self.spoilt_storm(("net", (1, 2, 3)))
        for value in ODD_VALUES:
            self.spoilt_storm(value)

    def test_lines_of_storms(self):
        for line in ("fan", "Net", b"net", *ODD_VALUES):
            self.spoilt_storm((line, 1, 1, 1))

    def test_numbers_of_storms(self):
        for number in (0, 100, -1, (1,), *ODD_VALUES):
            self.spoilt_storm(("net", number, 1, 1))
            self.spoilt_storm(("net", 1, number, 1))
            self.spoilt_storm(("net", 1, 1, number))

    def test_lines_with_two_storms(self):
        self.wrong("storms", 1, 2, storms=(("net", 1, 2, 3), ("net", 1, 2, 3)))
        self.wrong("storms", 2, 2, storms=(("net", 1, 2, 3), ("disk", 1, 2, 3), ("net", 4, 5, 6)))


if __name__ == "__main__":
    unittest.main()
