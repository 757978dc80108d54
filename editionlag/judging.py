"""Whether wishes are kept for all that servers do, with evidence that can be checked.

The functions without checks take windows for each number of steps that have begun,
and several wishes at once, so that they serve for any way in which servers may lag.
If at_end is True, wishes are only asked for where all steps have begun, and none is due.
"""

from editionlag.checks import check_lag
from editionlag.errors import BadWish
from editionlag.schedules import all_windows, check_schedule
from editionlag.states import (
    come_about, deeds_within, is_ended, is_state, start_of, state_behind, wishes_broken, woven_from,
)

WISHES = ("left", "missed", "stray")
# The wishes that a right schedule keeps.
LOOKING = ("missed", "stray")


def checked_windows(schedule, wish, lag):
    """Checks all three, and returns the windows."""
    check_schedule(schedule)
    check_lag(lag)
    if not isinstance(wish, str) or wish not in WISHES:
        raise BadWish("not a wish")
    return all_windows(schedule, lag)


def breaks(schedule, windows, state, wishes, at_end=False):
    """Tells whether a state breaks one of some wishes."""
    if at_end and not is_ended(schedule, state):
        return False
    told = wishes_broken(schedule, state, windows[state[0]])
    return any([wish in wishes for wish in told])


def are_kept(schedule, windows, states, wishes, at_end=False):
    """Tells whether states are a list as in a Right for all of some wishes."""
    if not isinstance(states, list) or not all([is_state(schedule, state) for state in states]):
        return False
    held = {state: True for state in states}
    if start_of(schedule) not in held:
        return False
    for state in states:
        if breaks(schedule, windows, state, wishes, at_end):
            return False
        options = deeds_within(schedule, state, windows[state[0]])
        if not all([state_behind(schedule, state, deed) in held for deed in options]):
            return False
    return True


def is_broken(schedule, windows, history, wishes, at_end=False):
    """Tells whether deeds are a weaving as in a Wrong for one of some wishes."""
    if not isinstance(history, list):
        return False
    found = [start_of(schedule), *woven_from(schedule, windows, history)]
    return len(found) > len(history) and breaks(schedule, windows, found[-1], wishes, at_end)


def copied(table):
    """Returns a new dict with new lists."""
    return {key: list(table[key]) if isinstance(table[key], list) else table[key] for key in table}


class Right:
    """A list of states that shows that a wish is kept."""

    def __init__(self, states):
        self.states = list(states)

    def __eq__(self, other):
        return isinstance(other, Right) and self.states == other.states

    def shows(self, schedule, wish, *, lag=1):
        """Tells whether the states are closed, and none of them breaks the wish."""
        windows = checked_windows(schedule, wish, lag)
        return are_kept(schedule, windows, self.states, (wish,))


class Wrong:
    """A weaving that shows that a wish is broken."""

    def __init__(self, deeds):
        self.deeds = list(deeds)

    def __eq__(self, other):
        return isinstance(other, Wrong) and self.deeds == other.deeds

    def shows(self, schedule, wish, *, lag=1):
        """Tells whether the deeds lead to a state that breaks the wish."""
        windows = checked_windows(schedule, wish, lag)
        return is_broken(schedule, windows, self.deeds, (wish,))


def weaving_to(ahead, state):
    """Returns the deeds that lead to a state that comes about."""
    found = []
    while ahead[state] is not None:
        state, deed = ahead[state]
        found.append(deed)
    return found[::-1]


def judged(schedule, windows, wishes, known=None, at_end=False):
    """Returns a Right for all of some wishes, or a Wrong of the fewest deeds for one of them."""
    ahead = come_about(schedule, windows, known)
    for state in ahead:
        if breaks(schedule, windows, state, wishes, at_end):
            return Wrong(weaving_to(ahead, state))
    return Right(list(ahead))


def judge(schedule, wish, *, lag=1):
    """Returns a Right or a Wrong for a wish."""
    return judged(schedule, checked_windows(schedule, wish, lag), (wish,))


def is_kept(schedule, wish, *, lag=1):
    """Tells whether no state that comes about breaks a wish."""
    return isinstance(judge(schedule, wish, lag=lag), Right)


def soonest(schedule, wish, *, lag=1):
    """Returns the least number of deeds that lead to a state that breaks a wish, or None."""
    found = judge(schedule, wish, lag=lag)
    return len(found.deeds) if isinstance(found, Wrong) else None


def is_right(schedule, *, lag=1):
    """Tells whether public looks miss no row and find no stray one."""
    check_schedule(schedule)
    check_lag(lag)
    return isinstance(judged(schedule, all_windows(schedule, lag), LOOKING), Right)
