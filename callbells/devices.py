"""Devices that ring the lines of one processor in periods."""

from math import gcd

from callbells.checks import check_number, is_integer, spoilt_item
from callbells.course import Course
from callbells.errors import InvalidBell, TooMany, UnknownLine

MAX_BELLS = 12
MAX_FIRST = 10 ** 6
MAX_PERIOD = 60
MOST = 10 ** 18


def is_bell(setup, bell):
    """Whether a value is a bell of a line of a set-up."""
    if not isinstance(bell, tuple) or len(bell) != 3:
        return False
    line, first, period = bell
    return line in setup and is_integer(first, 0, MAX_FIRST) and is_integer(period, 1, MAX_PERIOD)


def spoilt_bell(setup, bells):
    """The index of the first bell that is spoilt, or None."""
    return spoilt_item(bells, MAX_BELLS, lambda bell: is_bell(setup, bell))


def lowest_terms(part, whole):
    """A fraction in lowest terms."""
    shared = gcd(part, whole)
    return (part // shared, whole // shared)


class Devices:
    """Bells (line, first, period) of the lines of a set-up; they never change."""

    def __init__(self, setup, bells):
        at = spoilt_bell(setup, bells)
        if at is not None:
            raise InvalidBell(at)
        self._setup = setup
        self._bells = bells
        # Played when it is asked for first.
        self._course = None

    @property
    def setup(self):
        """The set-up, as it was given."""
        return self._setup

    @property
    def bells(self):
        """The tuple of the bells, as it was given."""
        return self._bells

    def after(self, count):
        """The processor behind so many ticks, ahead of the bells of the next one."""
        check_number(count, 0, MOST)
        return self._found_course().single_behind(count)

    def begins(self, line, count):
        """How many calls of a line begin in the first so many ticks."""
        self._check_line(line)
        check_number(count, 0, MOST)
        return self._found_course().begins_within(line, count)

    def merged(self, line, count):
        """How many rings of a line are merged in the first so many ticks."""
        self._check_line(line)
        check_number(count, 0, MOST)
        return self._found_course().merges_within(line, count)

    def nth_begin(self, line, number):
        """The tick in which the call of a line with a number, from 1, begins, or None."""
        self._check_line(line)
        check_number(number, 1, MOST)
        return self._found_course().begin_tick(line, number)

    def repetition(self):
        """The first tick from which on all repeats, and after how many ticks."""
        return self._found_course().repeated()

    def share(self):
        """The shares of idle and of spun ticks in the long run, as fractions."""
        course = self._found_course()
        _, length = course.repeated()
        _, spun, _, idle = course.gained_ticks()
        return (lowest_terms(idle, length), lowest_terms(spun, length))

    def _check_line(self, line):
        if line not in self._setup:
            raise UnknownLine(line)

    def _found_course(self):
        if self._course is None:
            self._course = Course(self._setup, self._bells)
        if self._course.is_too_long():
            raise TooMany("nothing is repeated early enough")
        return self._course
