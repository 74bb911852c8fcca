"""Houses played by lists of deeds, and logs judged by them."""

from callbells.checks import check_number, is_integer
from callbells.deedforms import LINE_WORDS, MOST_TICKS, do_deed, do_line_deed, is_deed
from callbells.errors import BellError, InvalidDeed, UnknownLine
from callbells.setups import Setup
from callbells.single import Single

# What stands behind the tick in events of each form.
NAMED_EVENTS = ("place", "begin", "end", "done", "moved")


def play_deeds(house, deeds, ticks):
    """The house behind deeds and a number of ticks, from how it was at first."""
    check_deeds(deeds)
    check_number(ticks, 0, MOST_TICKS)
    return played(house, deeds, ticks)


def judge_log(house, deeds, log):
    """The index of the first event of a log that cannot be, or None if it is whole."""
    check_deeds(deeds)
    known = [event[1] for event in log if is_event(event)]
    if not known:
        return 0 if log else None
    last = max(known)
    events = played(house, [deed for deed in deeds if deed[0] <= last], last + 1).log
    for at, event in enumerate(log):
        if at == len(events) or not is_event(event) or event != events[at]:
            return at
    return len(log) if len(log) < len(events) else None


def alone(house, line, deeds, ticks):
    """The ticks in which a line begins on a processor where there is nothing else."""
    if line not in house.setup:
        raise UnknownLine(line)
    check_deeds(deeds)
    check_number(ticks, 0, MOST_TICKS)
    single = Single(setup_alone(house.setup[line]))
    events = []
    for at, deed in enumerate(deeds):
        tick, word, what = deed[:3]
        if tick <= ticks and word in LINE_WORDS and what == line:
            events.extend(single.ticks(tick - single.now))
            try:
                do_line_deed(single, word, line)
            except BellError:
                raise InvalidDeed(at)
    events.extend(single.ticks(ticks - single.now))
    return [event[0] for event in events if event[1] == "begin"]


def check_deeds(deeds):
    """Raise InvalidDeed for the first deed that is not so formed or too early, if one is."""
    least = 0
    for at, deed in enumerate(deeds):
        if not isinstance(deed, tuple) or not is_deed(deed[1:]) or not is_tick(deed[0], least):
            raise InvalidDeed(at)
        least = deed[0]


def is_tick(value, least):
    """Whether a value is a tick from a least one on; deeds may be as late as one likes."""
    return isinstance(value, int) and not isinstance(value, bool) and value >= least


def is_event(event):
    """Whether a value is formed as an event of a log."""
    if not isinstance(event, tuple) or len(event) < 3 or not is_integer(event[1], 0, MOST_TICKS):
        return False
    if event[0] in NAMED_EVENTS:
        return len(event) == 4 and isinstance(event[2], str) and is_tick(event[3], 0)
    if event[0] == "off":
        return len(event) == 3 and is_tick(event[2], 0)
    return event[0] == "held" and len(event) == 3 and isinstance(event[2], str)


def played(house, deeds, ticks):
    """The house behind so many ticks, with the deeds ahead of them and those at their end."""
    play = house.as_at_first()
    for at, deed in enumerate(deeds):
        if deed[0] > ticks:
            break
        play.ticks(deed[0] - play.now)
        try:
            do_deed(play, deed[1:])
        except BellError:
            raise InvalidDeed(at)
    play.ticks(ticks - play.now)
    return play


def setup_alone(line):
    """The set-up with a line alone that only runs."""
    name, kind, rank, handler = line
    runs = [step for step in handler if step[0] == "run"]
    return Setup(((name, kind, rank, tuple(runs) if runs else (("run", 1),)),))
