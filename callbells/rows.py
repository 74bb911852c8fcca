"""The rows of words of which the text of a set-up consists."""

from callbells.checks import ARGUMENTS, KINDS, is_letters
from callbells.errors import NotationError

LINE_FORMS = ("name", "kind", "integer")
WORK_FORMS = ("name", "integer", "integer")
NAMED = ("line", "level", "work")
MAX_DIGITS = 3


def line_row(line):
    """The row of a line."""
    name, kind, rank, handler = line
    steps = [f"{word} {what}" for word, what in handler]
    return " ".join([f"line {name} {kind} {rank}", *steps])


def work_row(work):
    """The row of a work."""
    name, rank, ticks = work
    return f"work {name} {rank} {ticks}"


def rows_text(lines, works):
    """The text of lines and works."""
    rows = [line_row(line) for line in lines] + [work_row(work) for work in works]
    return "\n".join(rows)


def is_number_word(word):
    """Whether a word is an integer of few digits, without a sign or leading zeros."""
    if not word.isascii() or not word.isdigit() or len(word) > MAX_DIGITS:
        return False
    return word == "0" or word[0] != "0"


def has_form(word, form):
    """Whether a word has a form: that of a name, a kind, a step's word or an integer."""
    if form == "name":
        return is_letters(word)
    if form == "kind":
        return word in KINDS
    if form == "step":
        return word in ARGUMENTS
    return is_number_word(word)


def step_forms(words):
    """The forms that the words of steps ought to have, in pairs."""
    forms = []
    for word in words[::2]:
        is_named = ARGUMENTS.get(word) in NAMED
        forms.extend(["step", "name" if is_named else "integer"])
    return forms


def forms_behind(words):
    """The forms that the words behind the first word of a row ought to have."""
    if words[0] == "work":
        return list(WORK_FORMS)
    return [*LINE_FORMS, *step_forms(words[4:])]


def wrong_word(words, starts):
    """The index of the first word that is wrong, missing or superfluous, or None."""
    if words[0] not in starts:
        return 0
    forms = forms_behind(words)
    for at, form in enumerate(forms, start=1):
        if at == len(words) or not has_form(words[at], form):
            return at
    return len(forms) + 1 if len(words) > len(forms) + 1 else None


def possible_starts(lines, works):
    """The words with which the row behind these lines and works may begin."""
    if works:
        return ("work",)
    if lines:
        return ("line", "work")
    return ("line",)


def read_line(words):
    """The line of a row that has its form."""
    steps = []
    for at in range(4, len(words), 2):
        what = words[at + 1]
        steps.append((words[at], int(what) if what.isdigit() else what))
    return (words[1], words[2], int(words[3]), tuple(steps))


def read_work(words):
    """The work of a row that has its form."""
    return (words[1], int(words[2]), int(words[3]))


def read_rows(text):
    """The tuple of the lines and that of the works of a text."""
    if not isinstance(text, str):
        raise NotationError(0, 0)
    lines = []
    works = []
    for at, row in enumerate(text.split("\n")):
        words = row.split(" ")
        word = wrong_word(words, possible_starts(lines, works))
        if word is not None:
            raise NotationError(at, word)
        if words[0] == "line":
            lines.append(read_line(words))
        else:
            works.append(read_work(words))
    return tuple(lines), tuple(works)
