"""Point 1 and the interface: what holds of everything that there is."""

import copy
import importlib
import inspect
import unittest

from callbells.balance import fewest_moves, judge_moves, least_spread
from callbells.clockwork import Clockwork
from callbells.deeds import alone, judge_log, play_deeds
from callbells.desk import Desk, tried
from callbells.devices import Devices
from callbells.errors import BellError
from callbells.houses import House
from callbells.notation import Diary, format_house, parse_house
from callbells.parting import first_parting
from callbells.ringlogs import first_impossible, ring_ranges
from callbells.setups import Setup
from callbells.single import Single
from callbells.waits import begins_of, judge_begins, longest_wait, waiting_rings
from callbells.ways import way_out
from callbells.weaving import needless_steps, play_weaving, weaving_ends

from helpers import FLUSH, HEAT, NET, Case, edge, plain, rung, told, usual

# The functions of each file with their parameters; those behind * are given by name.
FUNCTIONS = {
    "waits": {
        "longest_wait": "setup gaps line", "begins_of": "setup gaps line", "waiting_rings": "setup gaps line",
        "judge_begins": "setup gaps line begins",
    },
    "ways": {"way_out": "single"},
    "ringlogs": {"first_impossible": "setup log", "ring_ranges": "setup log"},
    "balance": {"fewest_moves": "loads places count bound", "least_spread": "loads places count most", "judge_moves": "loads places count moves"},
    "weaving": {"weaving_ends": "setup count rings", "play_weaving": "setup count rings moves", "needless_steps": "setup count rings"},
    "parting": {"first_parting": "house other rings ticks"},
    "deeds": {"play_deeds": "house deeds ticks", "judge_log": "house deeds log", "alone": "house line deeds ticks"},
    "desk": {"tried": "desk deeds * is_kept=False"},
    "notation": {"format_house": "house", "parse_house": "text"},
}
LINE_DEEDS = {name: "self line" for name in ("ring", "quiet", "mask", "unmask")}
FLAG_DEEDS = {name: "self flag" for name in ("set_flag", "clear_flag")}
TICKS = {"tick": "self", "ticks": "self count"}
CLASSES = {
    ("setups", "Setup"): {"__init__": "self lines works=()", "with_rank": "self line rank", "ticks_of": "self line", "touched_by": "self line"},
    ("single", "Single"): {"__init__": "self setup", "copied": "self", **LINE_DEEDS, **FLAG_DEEDS, **TICKS},
    ("devices", "Devices"): {
        "__init__": "self setup bells", "after": "self count", "begins": "self line count", "merged": "self line count",
        "nth_begin": "self line number", "repetition": "self", "share": "self",
    },
    ("houses", "House"): {
        "__init__": "self setup count * routes=() storms=()", "copied": "self", **LINE_DEEDS, **FLAG_DEEDS, **TICKS, "leave": "self processor",
        "come": "self processor", "move": "self line processor", "fate": "self number", "ring_of": "self line", "__call__": "self line",
    },
    ("clockwork", "Clockwork"): {
        "__init__": "self house clocks", "begun_by": "self line tick", "done_by": "self work tick", "state_after": "self tick", "repetition": "self",
    },
    ("desk", "Desk"): {
        "__init__": "self house", "house": "self", "do": "self deed", "apply": "self deeds", "undo": "self", "redo": "self", "keep": "self",
    },
    ("notation", "Diary"): {"__init__": "self house text", "house": "self"},
}
PROPERTIES = {
    ("setups", "Setup"): "lines works order is_plain text",
    ("single", "Single"): "now waiting calls queue flags_up bar masked highs spent",
    ("devices", "Devices"): "setup bells",
    ("houses", "House"): "setup processor_count routes storms now flags_up begin_counts done_counts log rings",
    ("desk", "Desk"): "history",
    ("notation", "Diary"): "told",
}
SIGNS = {
    ("setups", "Setup"): "__len__ __contains__ __getitem__ __eq__ __sub__ __iter__",
    ("single", "Single"): "__eq__",
    ("houses", "House"): "__len__ __contains__ __getitem__ __call__ __eq__ __iter__",
    ("desk", "Desk"): "__enter__ __exit__",
}


def parameters(function):
    """The parameters of a function, as the tables above write them."""
    words = []
    for told_one in inspect.signature(function).parameters.values():
        if told_one.kind == told_one.KEYWORD_ONLY and "*" not in words:
            words.append("*")
        default = "" if told_one.default is told_one.empty else f"={told_one.default!r}"
        words.append(told_one.name + default)
    return " ".join(words)


class InterfaceTest(Case):
    def test_functions(self):
        for file, functions in FUNCTIONS.items():
            module = importlib.import_module("callbells." + file)
            for name, words in functions.items():
                with self.subTest(name=name):
                    function = getattr(module, name)
                    self.same([parameters(function), function.__module__], [words, module.__name__])

    def test_classes(self):
        for (file, name), methods in CLASSES.items():
            module = importlib.import_module("callbells." + file)
            told_class = getattr(module, name)
            self.same(told_class.__module__, module.__name__)
            for method, words in methods.items():
                with self.subTest(name=name, method=method):
                    self.same(parameters(told_class.__dict__[method]), words)

    def test_properties_and_signs(self):
        for (file, name), words in PROPERTIES.items():
            for word in words.split():
                told_class = getattr(importlib.import_module("callbells." + file), name)
                self.assertIsInstance(told_class.__dict__[word], property)
        for (file, name), words in SIGNS.items():
            for word in words.split():
                told_class = getattr(importlib.import_module("callbells." + file), name)
                self.assertIn(word, told_class.__dict__)

    def test_class_values(self):
        self.same([Setup.MAX_LINES, Setup.MAX_WORKS, Setup.MAX_FLAG], [12, 8, 7])


def stuck():
    """A processor on which a call awaits a flag that another line sets."""
    single = Single(Setup((edge("low", 2, ("await", 0), ("run", 1)), edge("high", 4, ("set", 0)))))
    single.ring("low")
    single.tick()
    return single


def busy():
    """A house in which much has happened."""
    routes, storms = (("net", "turn", (1, 0)), ("disk", "least", (0, 1, 2))), (("disk", 1, 5, 3),)
    house = rung(House(usual(), 3, routes=routes, storms=storms), "net", "disk", "heat", "net")
    house.ticks(3)
    rung(house, "disk", "net")
    house.leave(0)
    house.set_flag(4)
    house.tick()
    return house


def worked():
    desk = Desk(busy())
    desk.apply([("ring", "disk"), ("tick", 2), ("set", 1), ("set", 2)])
    desk.undo()
    return desk


PLAIN = plain(("a", 3, 2), ("b", 2, 3), ("c", 1, 2))
PAIR = Setup((edge("a", 2, ("await", 0), ("mask", "b"), ("run", 1)), edge("b", 1, ("set", 0), ("bar", 0))))
DEEDS = [(0, "ring", "net"), (1, "leave", 0), (2, "ring", "disk")]

# Functions with their arguments; what they return is changed between two calls.
CALLS = {
    "longest_wait": (longest_wait, lambda: [PLAIN, {"a": 5, "b": 9, "c": 20}, "c"]),
    "begins_of": (begins_of, lambda: [PLAIN, {"a": 5, "b": 9, "c": 20}, "c"]),
    "waiting_rings": (waiting_rings, lambda: [PLAIN, {"a": 5, "b": 9, "c": 20}, "c"]),
    "judge_begins": (judge_begins, lambda: [PLAIN, {"a": 5, "b": 9, "c": 20}, "c", [7, 9]]),
    "way_out": (way_out, lambda: [stuck()]),
    "first_impossible": (first_impossible, lambda: [PLAIN, [(0, "b"), (1, "a"), (2, "c")]]),
    "ring_ranges": (ring_ranges, lambda: [PLAIN, [(0, "b"), (1, "a"), (5, "c")]]),
    "fewest_moves": (fewest_moves, lambda: [(5, 3, 2), (0, 0, 0), 2, 0]),
    "least_spread": (least_spread, lambda: [(5, 3, 2), (0, 0, 0), 2, 1]),
    "judge_moves": (judge_moves, lambda: [(5, 3, 2), (0, 0, 0), 2, [(1, 1), (2, 1)]]),
    "weaving_ends": (weaving_ends, lambda: [PAIR, 2, ("a", "b")]),
    "play_weaving": (play_weaving, lambda: [PAIR, 1, ("a",), [("begin", "a", 0)]]),
    "needless_steps": (needless_steps, lambda: [PAIR, 2, ("a", "b")]),
    "first_parting": (first_parting, lambda: [busy(), House(usual(), 3), 2, 3]),
    "play_deeds": (play_deeds, lambda: [busy(), list(DEEDS), 4]),
    "judge_log": (judge_log, lambda: [busy(), list(DEEDS), [("place", 0, "net", 1), ("begin", 0, "net", 0)]]),
    "alone": (alone, lambda: [busy(), "net", list(DEEDS), 4]),
    "tried": (tried, lambda: [worked(), [("ring", "net"), ("tick", 2), ("leave", 1)]]),
    "format_house": (format_house, lambda: [busy()]),
    "parse_house": (parse_house, lambda: [format_house(busy())]),
    "Setup": (Setup, lambda: [(NET, HEAT), (FLUSH,)]),
    "Single": (Single, lambda: [usual()]),
    "Devices": (Devices, lambda: [usual(), (("disk", 0, 4), ("net", 1, 10))]),
    "House": (House, lambda: [usual(), 3]),
    "Clockwork": (Clockwork, lambda: [busy(), (("disk", 0, 5),)]),
    "Desk": (Desk, lambda: [busy()]),
    "Diary": (Diary, lambda: [busy(), "tick 3\nring net\nleave 1"]),
}

# What is asked of an object without changing it.
ASKED = {
    "Setup": (usual, {
        "lines": lambda one: one.lines, "works": lambda one: one.works, "order": lambda one: one.order, "is_plain": lambda one: one.is_plain,
        "text": lambda one: one.text, "with_rank": lambda one: one.with_rank("net", 9), "ticks_of": lambda one: one.ticks_of("net"),
        "touched_by": lambda one: one.touched_by("heat"), "item": lambda one: one["net"], "minus": lambda one: one - "net",
        "len": len, "in": lambda one: "net" in one, "equal": lambda one: one == usual(),
    }),
    "Single": (stuck, {
        "now": lambda one: one.now, "waiting": lambda one: one.waiting, "calls": lambda one: one.calls, "queue": lambda one: one.queue,
        "flags_up": lambda one: one.flags_up, "bar": lambda one: one.bar, "masked": lambda one: one.masked, "highs": lambda one: one.highs,
        "spent": lambda one: one.spent, "copied": lambda one: one.copied(), "equal": lambda one: one == stuck(),
    }),
    "Devices": (lambda: Devices(usual(), (("disk", 0, 4), ("net", 1, 10))), {
        "setup": lambda one: one.setup, "bells": lambda one: one.bells, "after": lambda one: one.after(7), "begins": lambda one: one.begins("net", 99),
        "merged": lambda one: one.merged("net", 99), "nth_begin": lambda one: one.nth_begin("net", 4), "repetition": lambda one: one.repetition(),
        "share": lambda one: one.share(),
    }),
    "House": (busy, {
        "setup": lambda one: one.setup, "count": lambda one: one.processor_count, "routes": lambda one: one.routes, "storms": lambda one: one.storms,
        "now": lambda one: one.now, "flags_up": lambda one: one.flags_up, "begin_counts": lambda one: one.begin_counts,
        "done_counts": lambda one: one.done_counts, "log": lambda one: one.log, "rings": lambda one: one.rings, "fate": lambda one: one.fate(1),
        "ring_of": lambda one: one.ring_of("net"), "item": lambda one: one[1], "call": lambda one: one("net"), "len": len,
        "in": lambda one: "net" in one, "copied": lambda one: one.copied(), "equal": lambda one: one == busy(),
    }),
    "Clockwork": (lambda: Clockwork(busy(), (("disk", 0, 5), ("net", 3, 9))), {
        "begun_by": lambda one: one.begun_by("net", 99), "done_by": lambda one: one.done_by("flush", 99), "state_after": lambda one: one.state_after(99),
        "repetition": lambda one: one.repetition(),
    }),
    "Desk": (worked, {"house": lambda one: one.house(), "history": lambda one: one.history}),
    "Diary": (lambda: Diary(busy(), "tick 3\nring net\nleave 1"), {"house": lambda one: one.house(), "told": lambda one: one.told}),
}

# Calls that raise an error, on objects that they could change.
REFUSED = {
    "Single": (stuck, [
        lambda one: one.ring("nix"), lambda one: one.quiet("low"), lambda one: one.mask(None), lambda one: one.unmask("nix"), lambda one: one.set_flag(8),
        lambda one: one.clear_flag(-1), lambda one: one.ticks(10001),
    ]),
    "House": (busy, [
        lambda one: one.ring("nix"), lambda one: one.quiet("net"), lambda one: one.mask(None), lambda one: one.unmask("nix"), lambda one: one.set_flag(8),
        lambda one: one.clear_flag(-1), lambda one: one.ticks(10001), lambda one: one.leave(0), lambda one: one.come(1), lambda one: one.move("heat", 1),
        lambda one: one.move("net", 2), lambda one: one.move("net", 9), lambda one: one.fate(99), lambda one: one.ring_of("nix"), lambda one: one[3],
        lambda one: one("nix"), lambda one: first_parting(one, one, 3, 3), lambda one: play_deeds(one, [(0, "ring", "net"), (1, "stop")], 3),
        lambda one: play_deeds(one, [(0, "ring", "net"), (1, "leave", 9)], 3), lambda one: judge_log(one, [(0, "leave", 9)], [("off", 0, 1)]),
        lambda one: alone(one, "net", [(0, "quiet", "net")], 3), lambda one: Clockwork(one, (("heat", 0, 1),)), lambda one: Diary(one, "ring net\nmess"),
    ]),
    "Desk": (worked, [
        lambda one: one.do(("ring", "nix")), lambda one: one.do(("stop",)), lambda one: one.do(("tick", -1)), lambda one: one.apply([("set", 5), ("set", 8)]),
        lambda one: one.apply([("set", 5), None]), lambda one: tried(one, [("set", 5), ("set", 8)]), lambda one: tried(one, [("set", 5), ("set", 8)], is_kept=True),
    ]),
}


def seen(value):
    """What can be seen of a value, by the words of the interface."""
    if isinstance(value, (list, tuple)):
        return [value.__class__.__name__] + [seen(item) for item in value]
    if isinstance(value, dict):
        return [(key, seen(value[key])) for key in value]
    if isinstance(value, Setup):
        return (value.lines, value.works)
    if isinstance(value, Single):
        return (value.now, value.waiting, value.calls, value.queue, value.flags_up, value.bar, value.masked, value.highs, value.spent)
    if isinstance(value, House):
        return (value.setup.text, value.routes, value.storms, told(value))
    if isinstance(value, Desk):
        return (value.history, seen(value.house()))
    if isinstance(value, Diary):
        return (value.told, seen(value.house()))
    if isinstance(value, Devices):
        return (seen(value.setup), value.bells, value.repetition())
    if isinstance(value, Clockwork):
        return (value.repetition(), value.begun_by("net", 99), value.state_after(99))
    return value


def spoil(value):
    """Change what was returned, as the caller may."""
    if isinstance(value, list):
        for item in value:
            spoil(item)
        value.clear()
    elif isinstance(value, tuple):
        for item in value:
            spoil(item)
    elif isinstance(value, dict):
        value.clear()
    elif isinstance(value, (Single, House)):
        value.set_flag(0)
        value.set_flag(7)
        value.ticks(7)
    elif isinstance(value, Desk):
        value.apply([("set", 7), ("tick", 7)])


class AskedTwiceTest(Case):
    def test_every_function_and_class(self):
        names = {name for functions in FUNCTIONS.values() for name in functions} | {name for _, name in CLASSES}
        self.assertEqual(names, set(CALLS))

    def test_functions_and_classes(self):
        for name, (call, arguments) in CALLS.items():
            with self.subTest(name=name):
                given = arguments()
                result = call(*given)
                first = repr(seen(result))
                self.same(seen(given), seen(arguments()))
                spoil(result)
                self.same(repr(seen(call(*given))), first)
                self.same(seen(given), seen(arguments()))
                # Equal arguments lead to equal results.
                self.same(repr(seen(call(*arguments()))), first)

    def test_arguments_are_not_kept(self):
        deeds = list(DEEDS)
        house = play_deeds(House(usual(), 2), deeds, 2)
        desk = Desk(house)
        given = [("set", 5)]
        desk.apply(given)
        before = repr([seen(house), seen(desk)])
        deeds.clear()
        given.append(("set", 6))
        self.same(repr([seen(house), seen(desk)]), before)
        house.ticks(3)
        self.same(desk.house().now, 2)

    def test_objects(self):
        self.assertEqual(set(ASKED), {name for _, name in CLASSES})
        for name, (made, calls) in ASKED.items():
            one = made()
            for word, call in calls.items():
                with self.subTest(name=name, word=word):
                    before = repr(seen(one))
                    result = call(one)
                    first = repr(seen(result))
                    if result is not one and word != "setup":
                        spoil(result)
                    self.same([repr(seen(call(one))), repr(seen(one))], [first, before])
                    self.same(repr(seen(call(made()))), first)

    def test_errors_change_nothing(self):
        for name, (made, calls) in REFUSED.items():
            one = made()
            before = repr(seen(one))
            for at, call in enumerate(calls):
                with self.subTest(name=name, at=at):
                    with self.assertRaises(BellError) as caught:
                        call(one)
                    first = (caught.exception.__class__, vars(caught.exception))
                    self.same(repr(seen(one)), before)
                    with self.assertRaises(BellError) as again:
                        call(one)
                    self.assertEqual((again.exception.__class__, vars(again.exception)), first)

    def test_arguments_may_be_copies(self):
        for name, (call, arguments) in CALLS.items():
            with self.subTest(name=name):
                self.same(repr(seen(call(*copy.deepcopy(arguments())))), repr(seen(call(*arguments()))))


if __name__ == "__main__":
    unittest.main()
