"""The rows of words of which the texts of set-ups and houses consist."""

from callbells.checks import ARGUMENTS, KINDS, is_letters
from callbells.errors import NotationError
from callbells.routes import RULES

# The forms of the words behind the first one of a row; more stand behind those of some.
FORMS = {
    "line": ("name", "kind", "integer"),
    "work": ("name", "integer", "integer"),
    "processors": ("integer",),
    "route": ("name", "rule", "integer"),
    "storm": ("name", "integer", "integer", "integer"),
}
NAMED = ("line", "level", "work")
MAX_DIGITS = 3

# With which words a row may begin, by the word with which the row ahead of it begins.
SETUP_ORDER = {"": ("line",), "line": ("line", "work"), "work": ("work",)}
HOUSE_ORDER = {
    "": ("line",),
    "line": ("line", "work", "processors"),
    "work": ("work", "processors"),
    "processors": ("route", "storm"),
    "route": ("route", "storm"),
    "storm": ("storm",),
}


def line_row(line):
    """The row of a line."""
    name, kind, rank, handler = line
    steps = [f"{word} {what}" for word, what in handler]
    return " ".join([f"line {name} {kind} {rank}", *steps])


def work_row(work):
    """The row of a work."""
    name, rank, ticks = work
    return f"work {name} {rank} {ticks}"


def route_row(route):
    """The row of a route."""
    line, rule, processors = route
    return " ".join(["route", line, rule, *[str(processor) for processor in processors]])


def storm_row(storm):
    """The row of a storm."""
    line, most, window, hold = storm
    return f"storm {line} {most} {window} {hold}"


def rows_text(lines, works):
    """The text of lines and works."""
    rows = [line_row(line) for line in lines] + [work_row(work) for work in works]
    return "\n".join(rows)


def is_number_word(word, most=MAX_DIGITS):
    """Whether a word is an integer of few digits, without a sign or leading zeros."""
    if not word.isascii() or not word.isdigit() or len(word) > most:
        return False
    return word == "0" or word[0] != "0"


def has_form(word, form):
    """Whether a word has a form: that of a name, a kind, a rule, a step's word or an integer."""
    if form == "name":
        return is_letters(word)
    if form == "kind":
        return word in KINDS
    if form == "rule":
        return word in RULES
    if form == "step":
        return word in ARGUMENTS
    return is_number_word(word)


def step_forms(words):
    """The forms that the words of steps ought to have, in pairs."""
    forms = []
    for word in words[::2]:
        is_named = ARGUMENTS.get(word) in NAMED
        forms.extend(["step", "name" if is_named else "integer"])
    return forms


def forms_behind(words):
    """The forms that the words behind the first word of a row ought to have."""
    forms = list(FORMS[words[0]])
    more = words[len(forms) + 1:]
    if words[0] == "line":
        forms.extend(step_forms(more))
    if words[0] == "route":
        forms.extend(["integer"] * len(more))
    return forms


def wrong_word(words, starts):
    """The index of the first word that is wrong, missing or superfluous, or None."""
    if words[0] not in starts:
        return 0
    forms = forms_behind(words)
    for at, form in enumerate(forms, start=1):
        if at == len(words) or not has_form(words[at], form):
            return at
    return len(forms) + 1 if len(words) > len(forms) + 1 else None


def checked_rows(text, order):
    """The rows of a text as lists of words, if all have their forms, in such an order."""
    if not isinstance(text, str):
        raise NotationError(0, 0)
    rows = []
    start = ""
    for at, row in enumerate(text.split("\n")):
        words = row.split(" ")
        word = wrong_word(words, order[start])
        if word is not None:
            raise NotationError(at, word)
        start = words[0]
        rows.append(words)
    return rows


def read_line(words):
    """The line of a row that has its form."""
    steps = []
    for at in range(4, len(words), 2):
        what = words[at + 1]
        steps.append((words[at], int(what) if what.isdigit() else what))
    return (words[1], words[2], int(words[3]), tuple(steps))


def read_numbers(words):
    """The integers of words."""
    return tuple([int(word) for word in words])


def words_behind(rows, start):
    """The words of all rows that begin with a word, without this one."""
    return [words[1:] for words in rows if words[0] == start]


def read_setup(rows):
    """The tuple of the lines and that of the works of rows that have their forms."""
    lines = [read_line(words) for words in rows if words[0] == "line"]
    works = [(words[0], *read_numbers(words[1:])) for words in words_behind(rows, "work")]
    return (tuple(lines), tuple(works))


def setup_rows(text):
    """The rows of the text of a set-up."""
    return checked_rows(text, dict(SETUP_ORDER))


def house_rows(text):
    """The rows of the text of a house."""
    rows = checked_rows(text, dict(HOUSE_ORDER))
    if not words_behind(rows, "processors"):
        raise NotationError(len(rows), 0)
    return rows
