"""The rings by which a call that awaits a flag goes on."""

from callbells.errors import TooMany

MOST_STATES = 1000


def way_out(single):
    """The shortest list of rings by which the innermost call goes on, or None."""
    if not single.awaits_flag():
        return []
    calls = single.calls
    seen = {single.state(): True}
    found = [(single, [])]
    while found:
        longer = []
        for play, rings, line in longer_lists(found):
            following = rung(play, line)
            if following.calls[:len(calls)] != calls:
                return [*rings, line]
            state = following.state()
            if state not in seen:
                if len(seen) == MOST_STATES:
                    raise TooMany("too many states come up before the call goes on")
                seen[state] = True
                longer.append((following, [*rings, line]))
        found = longer
    return None


def longer_lists(found):
    """Processors behind lists of rings, with each that may come next, in order."""
    return [(play, rings, line) for play, rings in found for line in (None, *play.line_order())]


def rung(single, line):
    """The processor one tick later, if a line, or None, rings ahead of this tick."""
    following = single.copied()
    if line is not None:
        following.ring(line)
    following.tick()
    return following
