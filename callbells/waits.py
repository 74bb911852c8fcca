"""The longest waits of the lines of a plain set-up whose rings keep gaps."""

from callbells.checks import check_number, is_integer
from callbells.errors import TooDense, UnknownLine
from callbells.setups import check_plain

MAX_GAP = 60


def longest_wait(setup, gaps, line):
    """The longest wait of a line, or None if waits can be as long as one likes."""
    begins = begins_of(setup, gaps, line)
    return None if begins is None else max(waits_of(begins, gaps[line]))


def begins_of(setup, gaps, line):
    """The ticks in which the calls of a line begin that matter for its longest wait, or None."""
    check_gaps(setup, gaps, line)
    rows = gap_rows(setup, gaps, line)
    begins = None
    for at, (name, _, gap) in enumerate(rows):
        if are_full(rows[:at + 1]):
            return None
        begins = begins_that_matter(rows[at], rows[:at])
        if max(waits_of(begins, gap)) >= gap:
            raise TooDense(name)
    return begins


def waiting_rings(setup, gaps, line):
    """The rings (tick, line) that lead to the longest wait of a line, or None."""
    begins = begins_of(setup, gaps, line)
    if begins is None:
        return None
    waits = waits_of(begins, gaps[line])
    last = begins[waits.index(max(waits))]
    rows = gap_rows(setup, gaps, line)
    rings = sorted([(tick, at) for at, row in enumerate(rows) for tick in range(0, last + 1, row[2])])
    return [(tick, rows[at][0]) for tick, at in rings]


def judge_begins(setup, gaps, line, begins):
    """The index from which on begins are not those that matter, or None if they are."""
    expected = begins_of(setup, gaps, line)
    if expected is None or begins is None:
        return None if expected is None and begins is None else 0
    for at, tick in enumerate(begins):
        if at == len(expected) or not is_integer(tick, expected[at], expected[at]):
            return at
    return None if len(begins) == len(expected) else len(begins)


def check_gaps(setup, gaps, line):
    """Raise what is to be raised for a set-up, gaps, and a line among them."""
    check_plain(setup)
    for name in gaps:
        if name not in setup:
            raise UnknownLine(name)
    for gap in gaps.values():
        check_number(gap, 1, MAX_GAP)
    # Only strings are looked up: a list could not be.
    if not isinstance(line, str) or line not in gaps:
        raise UnknownLine(line)


def gap_rows(setup, gaps, line):
    """Tuples (name, cost, gap) of the lines above a line, in order, and of the line itself."""
    names = [name for name in setup.order if name in gaps]
    return [(name, setup.ticks_of(name), gaps[name]) for name in names[:names.index(line) + 1]]


def are_full(rows):
    """Whether the costs of rows, each divided by its gap, come to 1 or more."""
    whole = 1
    for _, _, gap in rows:
        whole *= gap
    return sum([cost * (whole // gap) for _, cost, gap in rows]) >= whole


def waits_of(begins, gap):
    """The waits of the calls that begin in these ticks, if a line rings once a gap."""
    return [tick - k * gap for k, tick in enumerate(begins)]


def begins_that_matter(row, above):
    """The ticks in which the calls of a row begin, up to one that is over ahead of its next ring."""
    _, cost, gap = row
    begins = []
    begin = -cost
    is_over = False
    while not is_over:
        done = len(begins) * cost
        # A call takes at least its cost, so neither the next begin nor the end is earlier.
        begin = settled(begin + cost, lambda tick: done + asked(above, tick + 1))
        begins.append(begin)
        end = settled(begin + cost, lambda ticks: done + cost + asked(above, ticks))
        is_over = end <= len(begins) * gap
    return begins


def asked(rows, ticks):
    """The cost of all rings of rows ahead of the first so many ticks."""
    return sum([cost * ((ticks + gap - 1) // gap) for _, cost, gap in rows])


def settled(number, answer):
    """The smallest number, from a given one on, that is its own answer; answers do not fall."""
    found = answer(number)
    while found != number:
        number = found
        found = answer(number)
    return number
