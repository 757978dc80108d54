"""The greatest lag that a schedule bears."""

from editionlag.checks import MOST_LAG, is_integer
from editionlag.judging import LOOKING, Wrong, are_kept, is_broken, judged
from editionlag.schedules import all_windows, check_schedule


class Bears:
    """A lag, states that show that it is borne, and deeds that show that no greater one is."""

    def __init__(self, number, states, deeds):
        self.number = number
        self.states = list(states)
        self.deeds = list(deeds)

    def __eq__(self, other):
        return (
            isinstance(other, Bears)
            and self.number == other.number
            and self.states == other.states
            and self.deeds == other.deeds
        )

    def shows(self, schedule):
        """Tells whether the number is the greatest lag of a schedule, as states and deeds show."""
        check_schedule(schedule)
        number = self.number
        if not is_integer(number) or not -1 <= number <= MOST_LAG:
            return False
        return is_borne(schedule, number, self.states) and is_too_much(schedule, number + 1, self.deeds)


def is_borne(schedule, lag, states):
    """Tells whether states show that a schedule is right with a lag; none, that -1 is borne."""
    if lag < 0:
        return states == []
    return are_kept(schedule, all_windows(schedule, lag), states, LOOKING)


def is_too_much(schedule, lag, history):
    """Tells whether deeds show that a schedule is not right with a lag; none, for what is no lag any more."""
    if lag > MOST_LAG:
        return history == []
    return is_broken(schedule, all_windows(schedule, lag), history, LOOKING)


def bear(schedule):
    """Returns a Bears for a schedule."""
    check_schedule(schedule)
    states = []
    for lag in range(MOST_LAG + 1):
        found = judged(schedule, all_windows(schedule, lag), LOOKING)
        if isinstance(found, Wrong):
            return Bears(lag - 1, states, found.deeds)
        states = found.states
    return Bears(MOST_LAG, states, [])


def greatest_lag(schedule):
    """Returns the greatest lag with which a schedule is right, or -1."""
    return bear(schedule).number
