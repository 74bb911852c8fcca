"""Texts of houses, and diaries of what happened to one."""

from callbells.checks import is_integer, is_letters
from callbells.deedforms import MOST_TICKS, do_act
from callbells.errors import BellError, DiaryError
from callbells.houses import House
from callbells.rows import house_rows, is_number_word, read_numbers, read_setup
from callbells.rows import route_row, storm_row, words_behind
from callbells.setups import Setup

MAX_ROWS = 200
MAX_DIGITS = 4

# What stands behind the first word of each row of a diary.
ACT_FORMS = {
    "tick": ("integer",),
    "ring": ("name",),
    "quiet": ("name",),
    "mask": ("name",),
    "unmask": ("name",),
    "set": ("integer",),
    "clear": ("integer",),
    "leave": ("integer",),
    "come": ("integer",),
    "move": ("name", "integer"),
}


def format_house(house):
    """The text of a house as it was at first."""
    rows = [house.setup.text, f"processors {house.processor_count}"]
    rows.extend([route_row(route) for route in house.routes])
    rows.extend([storm_row(storm) for storm in house.storms])
    return "\n".join(rows)


def parse_house(text):
    """The house of a text."""
    rows = house_rows(text)
    lines, works = read_setup(rows)
    setup = Setup(lines, works)
    count = int(words_behind(rows, "processors")[0][0])
    routes = [(words[0], words[1], read_numbers(words[2:])) for words in words_behind(rows, "route")]
    storms = [(words[0], *read_numbers(words[1:])) for words in words_behind(rows, "storm")]
    return House(setup, count, routes=tuple(routes), storms=tuple(storms))


def read_act(row):
    """The deed, or the number of ticks, of a row of a diary, or None if it is not so formed."""
    start, *words = row.split(" ")
    if start not in ACT_FORMS or len(words) != len(ACT_FORMS[start]):
        return None
    act = [start]
    for word, form in zip(words, ACT_FORMS[start]):
        if form == "name" and is_letters(word):
            act.append(word)
        elif form == "integer" and is_number_word(word, MAX_DIGITS):
            act.append(int(word))
        else:
            return None
    if start == "tick" and not is_integer(act[1], 1, MOST_TICKS):
        return None
    return tuple(act)


def words_of(items):
    """Numbers and names as words."""
    return " ".join([str(item) for item in items])


def result_text(result):
    """The result of a deed as words."""
    if result is None or result == []:
        return "-"
    if isinstance(result, bool):
        return "yes" if result else "no"
    if not isinstance(result, list):
        return str(result)
    if isinstance(result[0], tuple):
        return ", ".join([words_of(event) for event in result])
    return words_of(result)


class Diary:
    """What happened to a house of its own, by the rows of a text; it never changes."""

    def __init__(self, house, text):
        self._house = house.copied()
        self._rows = []
        if not isinstance(text, str):
            raise DiaryError(0)
        rows = text.split("\n") if text else []
        for at, row in enumerate(rows):
            act = read_act(row)
            if act is None or at == MAX_ROWS:
                raise DiaryError(at)
            try:
                result = do_act(self._house, act)
            except BellError:
                raise DiaryError(at)
            self._rows.append(f"{row}: {result_text(result)}")

    def house(self):
        """A house of its own behind all rows."""
        return self._house.copied()

    @property
    def told(self):
        """The text in which each row has its result behind it."""
        return "\n".join(self._rows)
