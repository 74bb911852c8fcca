"""What numbers, lines, works and steps may be, and which one of a set-up is spoilt."""

from callbells.errors import InvalidNumber

KINDS = ("edge", "level")
MAX_LETTERS = 8
MAX_RANK = 9
MAX_STEPS = 8
MAX_TICKS = 99

# What stands behind the word of each step.
ARGUMENTS = {
    "run": "ticks",
    "ring": "line",
    "quiet": "level",
    "mask": "line",
    "unmask": "line",
    "set": "flag",
    "clear": "flag",
    "await": "flag",
    "bar": "bar",
    "later": "work",
}


def is_integer(value, low, high):
    """Whether a value is an integer from low to high; a boolean is not one."""
    return isinstance(value, int) and not isinstance(value, bool) and low <= value <= high


def check_number(value, low, high):
    """Raise InvalidNumber for what is no integer from low to high."""
    if not is_integer(value, low, high):
        raise InvalidNumber(f"this number is an integer from {low} to {high}")


def is_letters(word):
    """Whether a string is of letters a to z, at least one."""
    return word.isascii() and word.isalpha() and word.islower()


def is_name(value):
    """Whether a value is a name as lines and works have."""
    return isinstance(value, str) and len(value) <= MAX_LETTERS and is_letters(value)


def is_line(line):
    """Whether a value is formed as a line, whatever the items of its handler are."""
    if not isinstance(line, tuple) or len(line) != 4:
        return False
    name, kind, rank, handler = line
    if not is_name(name) or kind not in KINDS or not is_integer(rank, 1, MAX_RANK):
        return False
    return isinstance(handler, tuple) and 1 <= len(handler) <= MAX_STEPS


def is_work(work):
    """Whether a value is a work."""
    if not isinstance(work, tuple) or len(work) != 3:
        return False
    name, rank, ticks = work
    return is_name(name) and is_integer(rank, 1, MAX_RANK) and is_integer(ticks, 1, MAX_TICKS)


def is_step(step, kinds, works, max_flag):
    """Whether a value is a step, by the kinds of all lines and the names of all works."""
    if not isinstance(step, tuple) or len(step) != 2:
        return False
    word, what = step
    if not isinstance(word, str) or word not in ARGUMENTS:
        return False
    asked = ARGUMENTS[word]
    if asked == "ticks":
        return is_integer(what, 1, MAX_TICKS)
    if asked == "flag":
        return is_integer(what, 0, max_flag)
    if asked == "bar":
        return is_integer(what, 0, MAX_RANK)
    if not isinstance(what, str):
        return False
    if asked == "work":
        return what in works
    return what in kinds and (asked == "line" or kinds[what] == asked)


def spoilt_item(rows, most, is_formed):
    """The index of the first item that is not formed so or is too many, 0 for no tuple, or None."""
    if not isinstance(rows, tuple):
        return 0
    for at, row in enumerate(rows):
        if at == most or not is_formed(row):
            return at
    return None


def spoilt_named(rows, most, forms):
    """The index of the first row that is not formed, repeats a name or is too many, or None."""
    # Which rows are formed comes as truths: an operator calls nothing that is passed on to here.
    names = []
    for at, row in enumerate(rows):
        if at == most or not forms[at] or row[0] in names:
            return at
        names.append(row[0])
    return None


def spoilt_line(lines, most):
    """The index of the first line that is spoilt, whatever is in its handler, or None."""
    if not isinstance(lines, tuple) or not lines:
        return 0
    return spoilt_named(lines, most, [is_line(line) for line in lines])


def spoilt_work(works, most):
    """The index of the first work that is spoilt, or None."""
    if not isinstance(works, tuple):
        return 0
    return spoilt_named(works, most, [is_work(work) for work in works])


def spoilt_handler(lines, works, max_flag):
    """The index of the first line whose handler has an item that is no step, or None."""
    kinds = {line[0]: line[1] for line in lines}
    names = [work[0] for work in works]
    for at, line in enumerate(lines):
        if not all([is_step(step, kinds, names, max_flag) for step in line[3]]):
            return at
    return None
