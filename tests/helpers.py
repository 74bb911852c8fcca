"""What the tests of several files use."""

import unittest

from callbells.houses import House
from callbells.setups import Setup
from callbells.single import Single

NET = ("net", "edge", 5, (("run", 3), ("later", "flush")))
DISK = ("disk", "edge", 7, (("run", 2),))
HEAT = ("heat", "level", 2, (("run", 1), ("quiet", "heat")))
FLUSH = ("flush", 2, 4)

# Values that are no names, numbers, tuples of the kinds that are asked anywhere.
ODD_VALUES = (None, True, False, 1.0, 5.5, "", "5", [], [5], ["net"], (), (5,), ("net",), -1, 10 ** 30)


def usual():
    """The set-up of the document's examples."""
    return Setup((NET, DISK, HEAT), (FLUSH,))


def edge(name, rank, *steps):
    return (name, "edge", rank, tuple(steps))


def level(name, rank, *steps):
    return (name, "level", rank, tuple(steps))


def single_of(*lines, works=()):
    return Single(Setup(tuple(lines), works))


def plain(*rows):
    """The plain set-up of rows (name, rank, ticks)."""
    return Setup(tuple(edge(name, rank, ("run", ticks)) for name, rank, ticks in rows))


class Dice:
    """Numbers that look thrown and are the same in each run."""

    def __init__(self, seed):
        self.seed = seed

    def below(self, count):
        self.seed = (self.seed * 1103515245 + 12345) % 2 ** 31
        return (self.seed >> 12) % count

    def one_of(self, items):
        return items[self.below(len(items))]


def letters(count):
    """Different names: a, b, c .."""
    return ["abcdefghijklmnopqrstuvwxyz"[at] for at in range(count)]


def house_of(count, *lines, works=(), routes=(), storms=()):
    return House(Setup(tuple(lines), works), count, routes=routes, storms=storms)


def rung(target, *lines):
    """The processor or house behind rings of lines."""
    for line in lines:
        target.ring(line)
    return target


def until_next(bell, tick):
    """How many ticks later a bell or clock rings next, counted one by one."""
    _, first, period = bell
    later = 0
    while tick + later < first or (tick + later - first) % period:
        later += 1
    return later


def told(house):
    """All that a house tells of itself."""
    processors = [house[at] for at in range(house.processor_count)]
    names = [line[0] for line in house.setup.lines]
    lines = [(house(name), house.ring_of(name)) for name in names]
    fates = [house.fate(number) for number in range(len(house.rings))]
    counts = (house.begin_counts, house.done_counts, len(house))
    return (house.now, house.flags_up, processors, lines, house.log, house.rings, fates, counts)


class Case(unittest.TestCase):
    """Compares by repr, so that True is not 1 and a list is not a tuple."""

    def same(self, value, expected):
        self.assertEqual(repr(value), repr(expected))

    def raises(self, error, call, *args, **told):
        """The call raises exactly this class, with these attributes; returns the error."""
        with self.assertRaises(error) as caught:
            call(*args)
        self.assertIs(caught.exception.__class__, error)
        for name, value in told.items():
            self.same(getattr(caught.exception, name), value)
        return caught.exception
