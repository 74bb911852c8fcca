"""Points 11 to 15: thrown houses against houses that are played slowly."""

import unittest

from callbells.errors import BellError
from callbells.houses import House

from helpers import Case, Dice, told
from slowhouse import SlowHouse
from thrown import thrown_deed, thrown_parts

METHODS = {"set": "set_flag", "clear": "clear_flag"}


def done(house, deed):
    """The result of a deed, or its error with its attributes."""
    try:
        return getattr(house, METHODS.get(deed[0], deed[0]))(*deed[1:])
    except BellError as error:
        return error.__class__.__name__, vars(error)


def told_slowly(slow, setup):
    names = [line[0] for line in setup.lines]
    lines = [(slow.line_row(name), slow.waiting.get(name)) for name in names]
    fates = [slow.fate(number) for number in range(len(slow.rings))]
    counts = (slow.counts("begin", names), slow.counts("done", [work[0] for work in setup.works]), len(slow.on()))
    processors = [slow.processor_row(at) for at in range(slow.count)]
    return (slow.now, sorted(slow.flags), processors, lines, slow.log, slow.rings, fates, counts)


class PlayedTest(Case):
    def test_thrown_houses(self):
        seen = set()
        for seed in range(250):
            with self.subTest(seed=seed):
                self.play(Dice(seed * 7919 + 13), seen)
        words = {"place", "begin", "end", "done", "moved", "off", "held"}
        errors = {"UnknownLine", "NotLevel", "InvalidFlag", "UnknownProcessor", "NotOn", "LastOne", "AlreadyOn", "NotWaiting", "NotAllowed"}
        self.assertLessEqual(words | errors, seen)

    def play(self, dice, seen):
        setup, count, routes, storms = thrown_parts(dice)
        house = House(setup, count, routes=routes, storms=storms)
        slow = SlowHouse(setup, count, routes, storms)
        for _ in range(40):
            for _ in range(dice.below(3)):
                deed = thrown_deed(dice, setup, count)
                result = done(house, deed)
                self.same(result, done(slow, deed))
                if isinstance(result, tuple):
                    seen.add(result[0])
            self.same(house.tick(), slow.tick())
            self.same(told(house), told_slowly(slow, setup))
        seen.update([event[0] for event in house.log])


if __name__ == "__main__":
    unittest.main()
