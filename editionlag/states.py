"""States of one row, the deeds that lead from one to another, and broken wishes.

The functions without checks take a window as a list of numbers of editions, so
that they serve for any way in which servers may lag.
"""

from editionlag.checks import check_lag, is_ascending, is_integer, is_number
from editionlag.errors import BadDeed, BadDeeds, BadState, TooLarge
from editionlag.schedules import all_windows, check_schedule

MOST_STATES = 1000


def is_row(value, entries, width, many):
    """Tells whether both are a value or None, and the entries of so many indexes."""
    if value is not None and not is_number(value, width - 1):
        return False
    if not isinstance(entries, tuple) or len(entries) != many:
        return False
    return all([is_ascending(held, width - 1) for held in entries])


def can_be_due(schedule, begun):
    """Tells whether the step that began last is one that comes to rows."""
    return begun > 0 and schedule.steps[begun - 1][0] != "edition"


def is_ended(schedule, state):
    """Tells whether all steps have begun in a state, and it is not due."""
    return state[0] == len(schedule) and not state[1]


def is_state(schedule, state):
    if not isinstance(state, tuple) or len(state) != 4:
        return False
    begun, due, value, entries = state
    if not is_number(begun, len(schedule)) or not isinstance(due, bool):
        return False
    if due and not can_be_due(schedule, begun):
        return False
    return is_row(value, entries, schedule.width, len(schedule.first))


def checked_window(schedule, state, lag):
    """Checks all three, and returns the window in the state."""
    check_schedule(schedule)
    check_lag(lag)
    if not is_state(schedule, state):
        raise BadState("not a state of the schedule")
    return all_windows(schedule, lag)[state[0]]


def is_among(deed, options):
    """Tells whether something is one of some deeds.

    True equals 1, so a tuple that holds a boolean would be found among them.
    """
    if not isinstance(deed, tuple) or not deed or not isinstance(deed[0], str):
        return False
    return all([is_integer(number) for number in deed[1:]]) and deed in options


def start_of(schedule):
    return 0, False, None, tuple([() for _ in schedule.first])


def deeds_within(schedule, state, numbers):
    """Returns the deeds that can be done in a state with this window, in order."""
    begun, due, value, _ = state
    found = []
    if due:
        found.append(("visit",))
    elif begun < len(schedule):
        found.append(("begin",))
    if value is not None:
        found.extend([("cut", n) for n in numbers])
    worths = [worth for worth in range(schedule.width) if worth != value]
    found.extend([("put", n, worth) for n in numbers for worth in worths])
    return found


def without(held, value):
    return tuple([entry for entry in held if entry != value])


def with_value(held, value):
    return tuple(sorted(set([*held, value])))


def written(word, held, old, new):
    """Returns the entries of an index behind a row that was old and is new.

    Both are values, or None for no row.
    """
    if word == "absent":
        return held
    left = without(held, old)
    if new is None or word == "delete":
        return left
    return with_value(left, new)


def row_behind(edition, value, entries, new):
    """Returns the row and the entries behind a server of an edition that makes a row new."""
    return new, tuple([written(word, held, value, new) for word, held in zip(edition, entries)])


def rows_behind(known, width, edition, value, entries):
    """Returns the rows and entries behind each deed of a server of an edition, cutting first.

    They are put into what is known, as the same rows come again in many states.
    """
    key = (edition, value, entries)
    if key not in known:
        news = [new for new in [None] + list(range(width)) if new != value]
        known[key] = [row_behind(edition, value, entries, new) for new in news]
    return known[key]


def row_visited(step, value, entries):
    """Returns the row and the entries behind the visit of a fill or a sweep."""
    word, index = step
    found = list(entries)
    if word == "sweep":
        found[index] = ()
    elif value is not None:
        found[index] = with_value(found[index], value)
    return value, tuple(found)


def state_behind(schedule, state, deed):
    """Returns the state behind a deed that can be done in a state."""
    begun, due, value, entries = state
    if deed[0] == "begin":
        return begun + 1, can_be_due(schedule, begun + 1), value, entries
    if deed[0] == "visit":
        value, entries = row_visited(schedule.steps[begun - 1], value, entries)
        return begun, False, value, entries
    new = deed[2] if deed[0] == "put" else None
    value, entries = row_behind(schedule[deed[1]], value, entries, new)
    return begun, due, value, entries


def wishes_broken(schedule, state, numbers):
    """Returns the wishes that a state breaks with this window, ascending."""
    _, _, value, entries = state
    ended = is_ended(schedule, state)
    told = []
    for index, held in enumerate(entries):
        words = [schedule[n][index] for n in numbers]
        if ended and held and all([word == "absent" for word in words]):
            told.append("left")
        if "public" in words and value is not None and value not in held:
            told.append("missed")
        if "public" in words and without(held, value):
            told.append("stray")
    return sorted(set(told))


def leads(schedule, state, numbers, known):
    """Returns pairs of each deed that can be done in a state with this window and the state behind it."""
    begun, due, value, entries = state
    found = []
    if due or begun < len(schedule):
        deed = ("visit",) if due else ("begin",)
        found.append((deed, state_behind(schedule, state, deed)))
    for n in numbers:
        for new, held in rows_behind(known, schedule.width, schedule[n], value, entries):
            deed = ("cut", n) if new is None else ("put", n, new)
            found.append((deed, (begun, due, new, held)))
    return found


def come_about(schedule, windows, known=None):
    """Returns a dict from the states that come about with these windows to what is ahead.

    That is a pair of a state and the deed that leads from it, for the first state None.
    States that take fewer deeds come first, and none takes fewer than by what is ahead.
    Who asks for several schedules of one width may hand in one dict of what is known.
    """
    known = {} if known is None else known
    start = start_of(schedule)
    ahead = {start: None}
    found = [start]
    at = 0
    while at < len(found):
        state = found[at]
        at += 1
        for deed, behind in leads(schedule, state, windows[state[0]], known):
            if behind not in ahead:
                ahead[behind] = (state, deed)
                found.append(behind)
        if len(found) > MOST_STATES:
            raise TooLarge(f"more than {MOST_STATES} states come about")
    return ahead


def woven_from(schedule, windows, history):
    """Returns the states behind each deed, up to the first one that cannot be done."""
    state = start_of(schedule)
    found = []
    for deed in history:
        if not is_among(deed, deeds_within(schedule, state, windows[state[0]])):
            return found
        state = state_behind(schedule, state, deed)
        found.append(state)
    return found


def first_state(schedule):
    """Returns the state in which no step has begun, and there is no row."""
    check_schedule(schedule)
    return start_of(schedule)


def deeds(schedule, state, *, lag=1):
    """Returns the list of all deeds that can be done in a state, in order."""
    return deeds_within(schedule, state, checked_window(schedule, state, lag))


def after(schedule, state, deed, *, lag=1):
    """Returns the state behind a deed."""
    options = deeds_within(schedule, state, checked_window(schedule, state, lag))
    if not is_among(deed, options):
        raise BadDeed("not a deed that can be done")
    return state_behind(schedule, state, deed)


def broken(schedule, state, *, lag=1):
    """Returns the ascending list of the wishes that a state breaks."""
    return wishes_broken(schedule, state, checked_window(schedule, state, lag))


def woven(schedule, history, *, lag=1):
    """Returns the list of the states behind each deed of a weaving."""
    check_schedule(schedule)
    check_lag(lag)
    if not isinstance(history, (list, tuple)):
        raise BadDeeds(None)
    found = woven_from(schedule, all_windows(schedule, lag), history)
    if len(found) < len(history):
        raise BadDeeds(len(found))
    return found


def all_states(schedule, *, lag=1):
    """Returns the list of all states that come about, each once."""
    check_schedule(schedule)
    check_lag(lag)
    return list(come_about(schedule, all_windows(schedule, lag)))
