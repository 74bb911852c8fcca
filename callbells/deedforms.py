"""The forms of deeds, and how one is done."""

from callbells.checks import check_number

MOST_TICKS = 1000

# How many values stand behind the word of each deed.
VALUES = {
    "ring": 1,
    "quiet": 1,
    "mask": 1,
    "unmask": 1,
    "set": 1,
    "clear": 1,
    "leave": 1,
    "come": 1,
    "move": 2,
}
LINE_WORDS = ("ring", "quiet", "mask", "unmask")


def is_deed(deed):
    """Whether a value is formed as a deed without its tick, whatever its values are."""
    if not isinstance(deed, tuple) or not deed or not isinstance(deed[0], str):
        return False
    return deed[0] in VALUES and len(deed) == VALUES[deed[0]] + 1


def do_line_deed(target, word, line):
    """Let a line of a house or of a single processor ring, or be quiet, disabled or enabled."""
    if word == "ring":
        return target.ring(line)
    if word == "quiet":
        return target.quiet(line)
    if word == "mask":
        return target.mask(line)
    return target.unmask(line)


def do_deed(house, deed):
    """Do a deed that is so formed; return its result."""
    word, what, *more = deed
    if word in LINE_WORDS:
        return do_line_deed(house, word, what)
    if word == "set":
        return house.set_flag(what)
    if word == "clear":
        return house.clear_flag(what)
    if word == "leave":
        return house.leave(what)
    if word == "come":
        return house.come(what)
    return house.move(what, more[0])


def is_act(act):
    """Whether a value is formed as a deed without its tick, or as ("tick", count)."""
    if is_deed(act):
        return True
    return isinstance(act, tuple) and len(act) == 2 and act[0] == "tick"


def do_act(house, act):
    """Do a deed, or let a number of ticks go by; return its result."""
    if act[0] != "tick":
        return do_deed(house, act)
    check_number(act[1], 0, MOST_TICKS)
    return house.ticks(act[1])
