"""Set-ups, houses and deeds that look thrown and are the same in each run."""

from callbells.setups import Setup

from helpers import letters

RULES = ("first", "least", "turn")
WORDS = ("run", "run", "run", "ring", "quiet", "mask", "unmask", "set", "clear", "await", "bar", "later")


def thrown_step(dice, names, levels, works):
    word = dice.one_of(WORDS)
    if word == "quiet" and not levels or word == "later" and not works:
        word = "run"
    if word == "run":
        return ("run", 1 + dice.below(3))
    if word in ("ring", "mask", "unmask"):
        return (word, dice.one_of(names))
    if word == "quiet":
        return (word, dice.one_of(levels))
    if word == "later":
        return (word, dice.one_of(works))
    if word == "bar":
        return (word, dice.below(10))
    return (word, dice.below(3))


def thrown_setup(dice, most=5):
    names = letters(1 + dice.below(most))
    kinds = [dice.one_of(("edge", "edge", "level")) for _ in names]
    levels = [name for name, kind in zip(names, kinds) if kind == "level"]
    works = tuple([(name, 1 + dice.below(3), 1 + dice.below(4)) for name in letters(dice.below(4))])
    lines = []
    for name, kind in zip(names, kinds):
        steps = [thrown_step(dice, names, levels, [work[0] for work in works]) for _ in range(1 + dice.below(5))]
        if kind == "level" and dice.below(3):
            steps.append(("quiet", name))
        lines.append((name, kind, 1 + dice.below(9), tuple(steps)))
    return Setup(tuple(lines), works)


def thrown_route(dice, line, count):
    left = list(range(count))
    processors = []
    for _ in range(1 + dice.below(count)):
        processors.append(left.pop(dice.below(len(left))))
    return (line, dice.one_of(RULES), tuple(processors))


def thrown_parts(dice):
    """A set-up, a number of processors, routes and storms."""
    setup = thrown_setup(dice)
    count = 1 + dice.below(4)
    names = [line[0] for line in setup.lines]
    routes = [thrown_route(dice, name, count) for name in names if dice.below(4)]
    storms = [(name, 1 + dice.below(2), 1 + dice.below(6), 1 + dice.below(5)) for name in names if dice.below(3) == 0]
    return setup, count, tuple(routes), tuple(storms)


def thrown_deed(dice, setup, count):
    """A deed without its tick; some cannot be done."""
    word = dice.one_of(("ring", "ring", "ring", "ring", "quiet", "mask", "unmask", "unmask", "set", "clear", "leave", "come", "come", "move"))
    if word in ("set", "clear"):
        return (word, dice.below(3) if dice.below(12) else 8)
    names = [line[0] for line in setup.lines]
    line = dice.one_of(names) if dice.below(15) else "nix"
    processor = dice.below(count) if dice.below(15) else count
    if word in ("leave", "come"):
        return (word, processor)
    return (word, line) if word != "move" else (word, line, processor)
