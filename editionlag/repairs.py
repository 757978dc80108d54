"""Fills and sweeps behind a schedule, so that public looks are right in the end."""

from editionlag.checks import check_lag
from editionlag.errors import BadRepair, TooLarge
from editionlag.judging import LOOKING, Right, are_kept, copied, is_broken, judged
from editionlag.schedules import MOST_STEPS, all_windows, check_schedule, is_step

MOST_REPAIR = 2


def check_for_repair(schedule, lag):
    check_schedule(schedule)
    check_lag(lag)
    if len(schedule) > MOST_STEPS - MOST_REPAIR:
        raise TooLarge(f"more than {MOST_STEPS - MOST_REPAIR} steps")


def is_repair(schedule, told):
    """Tells whether something is a repair of a schedule."""
    if not isinstance(told, tuple) or len(told) > MOST_REPAIR:
        return False
    return all([is_step(step, len(schedule.first)) and step[0] != "edition" for step in told])


def all_repairs(schedule):
    """Returns the list of all repairs of a schedule, in order."""
    steps = [(word, index) for word in ("fill", "sweep") for index, _ in enumerate(schedule.first)]
    found = layer = [()]
    for _ in range(MOST_REPAIR):
        layer = [(*told, step) for told in layer for step in steps]
        found = found + layer
    return found


def with_repair(schedule, told):
    return schedule.with_steps(schedule.steps + told)


def are_all_failing(schedule, fails, expected, lag):
    """Tells whether exactly the expected repairs have weavings, each of which shows that its repair is not enough."""
    if len(fails) != len(expected) or not all([is_repair(schedule, told) and told in expected for told in fails]):
        return False
    for told in expected:
        longer = with_repair(schedule, told)
        if not is_broken(longer, all_windows(longer, lag), fails[told], LOOKING, at_end=True):
            return False
    return True


class Repair:
    """A repair that is enough, states that show it, and weavings that show that no shorter one is."""

    def __init__(self, repair, states, fails):
        self.repair = repair
        self.states = list(states)
        self.fails = copied(fails)

    def __eq__(self, other):
        return (
            isinstance(other, Repair)
            and self.repair == other.repair
            and self.states == other.states
            and self.fails == other.fails
        )

    def shows(self, schedule, *, lag=1):
        """Tells whether the repair is enough, and no shorter one is."""
        check_for_repair(schedule, lag)
        if not is_repair(schedule, self.repair):
            return False
        longer = with_repair(schedule, self.repair)
        if not are_kept(longer, all_windows(longer, lag), self.states, LOOKING, at_end=True):
            return False
        shorter = [told for told in all_repairs(schedule) if len(told) < len(self.repair)]
        return are_all_failing(schedule, self.fails, shorter, lag)


class NoRepair:
    """Weavings that show that no repair is enough."""

    def __init__(self, fails):
        self.fails = copied(fails)

    def __eq__(self, other):
        return isinstance(other, NoRepair) and self.fails == other.fails

    def shows(self, schedule, *, lag=1):
        """Tells whether each repair has a weaving that shows that it is not enough."""
        check_for_repair(schedule, lag)
        return are_all_failing(schedule, self.fails, all_repairs(schedule), lag)


def repaired(schedule, repair):
    """Returns the schedule with a repair behind its steps."""
    check_schedule(schedule)
    if not is_repair(schedule, repair) or len(schedule) + len(repair) > MOST_STEPS:
        raise BadRepair("not a repair of the schedule, or one too long")
    return with_repair(schedule, repair)


def repair(schedule, *, lag=1):
    """Returns a Repair or a NoRepair."""
    check_for_repair(schedule, lag)
    fails, known = {}, {}
    for told in all_repairs(schedule):
        longer = with_repair(schedule, told)
        found = judged(longer, all_windows(longer, lag), LOOKING, known, at_end=True)
        if isinstance(found, Right):
            shorter = [other for other in fails if len(other) < len(told)]
            return Repair(told, found.states, {other: fails[other] for other in shorter})
        fails[told] = found.deeds
    return NoRepair(fails)


def least_repair(schedule, *, lag=1):
    """Returns the length of the shortest repairs that are enough, or None."""
    found = repair(schedule, lag=lag)
    return len(found.repair) if isinstance(found, Repair) else None
