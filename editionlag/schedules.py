"""Schedules: a first edition, the steps behind it, and the windows of editions."""

from editionlag.checks import check_lag, is_integer, is_number
from editionlag.errors import BadEdition, BadSchedule, BadState

WORDS = ("absent", "delete", "public", "write")
MOST_WIDTH = 3
MOST_INDEXES = 2
MOST_STEPS = 12


def is_width(width):
    return is_integer(width) and 1 <= width <= MOST_WIDTH


def is_edition(edition, many):
    """Tells whether something is an edition for so many indexes."""
    if not isinstance(edition, tuple) or len(edition) != many:
        return False
    return all([isinstance(word, str) and word in WORDS for word in edition])


def is_first_edition(edition):
    return any([is_edition(edition, many) for many in range(1, MOST_INDEXES + 1)])


def is_step(step, many):
    """Tells whether something is a step of a schedule with so many indexes."""
    if not isinstance(step, tuple) or len(step) != 2 or not isinstance(step[0], str):
        return False
    if step[0] == "edition":
        return is_edition(step[1], many)
    return step[0] in ("fill", "sweep") and is_number(step[1], many - 1)


def are_steps(steps, many):
    if not isinstance(steps, tuple) or len(steps) > MOST_STEPS:
        return False
    return all([is_step(step, many) for step in steps])


class Schedule:
    """Steps by which indexes are put into a table and taken out of it; it never changes."""

    def __init__(self, width, first, steps):
        if not is_width(width):
            raise BadSchedule("width")
        if not is_first_edition(first):
            raise BadSchedule("first")
        if not are_steps(steps, len(first)):
            raise BadSchedule("steps")
        self._width = width
        self._first = first
        self._steps = steps
        later = [told for word, told in steps if word == "edition"]
        self._editions = (first, *later)

    @property
    def width(self):
        return self._width

    @property
    def first(self):
        return self._first

    @property
    def steps(self):
        return self._steps

    def __len__(self):
        return len(self._steps)

    def __getitem__(self, at):
        if not is_number(at, len(self._editions) - 1):
            raise BadEdition("not the number of an edition")
        return self._editions[at]

    def __iter__(self):
        raise TypeError("a schedule is not iterated over")

    def __eq__(self, other):
        return (
            isinstance(other, Schedule)
            and self._width == other._width
            and self._first == other._first
            and self._steps == other._steps
        )

    def editions(self):
        """Returns the list of all editions, in order."""
        return list(self._editions)

    def with_steps(self, steps):
        """Returns the schedule with other steps."""
        return Schedule(self._width, self._first, steps)


def check_schedule(schedule):
    if not isinstance(schedule, Schedule):
        raise BadSchedule(None)


def windows_by(schedule, lags):
    """Returns the windows for each number of steps that have begun, from 0 on.

    The list tells how far servers may lag while each edition is the newest one.
    """
    newest = 0
    found = [[0]]
    for word, _ in schedule.steps:
        if word == "edition":
            newest += 1
        found.append(list(range(max(0, newest - lags[newest]), newest + 1)))
    return found


def all_windows(schedule, lag):
    """Returns the windows if servers may lag as far by each edition."""
    return windows_by(schedule, [lag for _ in schedule.editions()])


def window(schedule, begun, *, lag=1):
    """Returns the list of the numbers of the editions that servers go by."""
    check_schedule(schedule)
    check_lag(lag)
    if not is_number(begun, len(schedule)):
        raise BadState("not a number of steps that have begun")
    return all_windows(schedule, lag)[begun]
