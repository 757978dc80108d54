"""Two schedules of one index each, woven into schedules of both indexes."""

from editionlag.checks import check_lag
from editionlag.errors import BadPair, BadPlan
from editionlag.judging import LOOKING, Right, are_kept, copied, is_broken, judged
from editionlag.schedules import Schedule, all_windows, check_schedule

MOST_WOVEN = 4
# The words of plans, each with the numbers of the schedules of which it takes a step.
TAKEN = {"both": (0, 1), "one": (0,), "other": (1,)}


def check_pair(one, other):
    check_schedule(one)
    check_schedule(other)
    plain = [len(schedule.first) == 1 and len(schedule) <= MOST_WOVEN for schedule in (one, other)]
    if one.width != other.width or not all(plain):
        raise BadPair("not the same width, one index each, and few enough steps")


def is_plan(plan, found):
    """Tells whether something is one of some plans."""
    return isinstance(plan, tuple) and all([isinstance(turn, str) for turn in plan]) and plan in found


def plans_from(ones, others):
    """Returns the plans by which some steps of both are taken, in any order."""
    if not ones and not others:
        return [()]
    found = []
    if ones:
        found.extend([("one", *plan) for plan in plans_from(ones[1:], others)])
    if others:
        found.extend([("other", *plan) for plan in plans_from(ones, others[1:])])
    if ones and others and ones[0][0] == "edition" and others[0][0] == "edition":
        found.extend([("both", *plan) for plan in plans_from(ones[1:], others[1:])])
    return found


def all_plans(one, other):
    """Returns the plans of two schedules, in order."""
    return sorted(plans_from(one.steps, other.steps), key=lambda plan: (len(plan), plan))


def schedule_of(one, other, plan):
    """Returns the schedule of a plan."""
    pair = (one, other)
    numbers = [0, 0]
    edition = [one.first[0], other.first[0]]
    steps = []
    for turn in plan:
        step = None
        for index in TAKEN[turn]:
            word, told = pair[index].steps[numbers[index]]
            numbers[index] += 1
            if word == "edition":
                edition[index] = told[0]
                step = (word, tuple(edition))
            else:
                step = (word, index)
        steps.append(step)
    return Schedule(one.width, one.first + other.first, tuple(steps))


def are_all_wrong(one, other, wrongs, expected, lag):
    """Tells whether exactly the expected plans have weavings, each of which shows that its plan is not right."""
    if len(wrongs) != len(expected) or not all([plan in wrongs for plan in expected]):
        return False
    for plan in expected:
        schedule = schedule_of(one, other, plan)
        if not is_broken(schedule, all_windows(schedule, lag), wrongs[plan], LOOKING):
            return False
    return True


class Shortest:
    """A right plan, states that show it, and weavings that show that no shorter one is right."""

    def __init__(self, plan, states, wrongs):
        self.plan = plan
        self.states = list(states)
        self.wrongs = copied(wrongs)

    def __eq__(self, other):
        return (
            isinstance(other, Shortest)
            and self.plan == other.plan
            and self.states == other.states
            and self.wrongs == other.wrongs
        )

    def shows(self, one, other, *, lag=1):
        """Tells whether the plan is right, and no shorter one is."""
        check_pair(one, other)
        check_lag(lag)
        found = all_plans(one, other)
        if not is_plan(self.plan, found):
            return False
        schedule = schedule_of(one, other, self.plan)
        if not are_kept(schedule, all_windows(schedule, lag), self.states, LOOKING):
            return False
        shorter = [plan for plan in found if len(plan) < len(self.plan)]
        return are_all_wrong(one, other, self.wrongs, shorter, lag)


class NoPlan:
    """Weavings that show that no plan is right."""

    def __init__(self, wrongs):
        self.wrongs = copied(wrongs)

    def __eq__(self, other):
        return isinstance(other, NoPlan) and self.wrongs == other.wrongs

    def shows(self, one, other, *, lag=1):
        """Tells whether each plan has a weaving that shows that it is not right."""
        check_pair(one, other)
        check_lag(lag)
        return are_all_wrong(one, other, self.wrongs, all_plans(one, other), lag)


def plans(one, other):
    """Returns the list of all plans, in order."""
    check_pair(one, other)
    return all_plans(one, other)


def woven_by(one, other, plan):
    """Returns the schedule of a plan."""
    check_pair(one, other)
    if not is_plan(plan, all_plans(one, other)):
        raise BadPlan("not a plan of these schedules")
    return schedule_of(one, other, plan)


def weave(one, other, *, lag=1):
    """Returns a Shortest or a NoPlan."""
    check_pair(one, other)
    check_lag(lag)
    wrongs, known = {}, {}
    for plan in all_plans(one, other):
        schedule = schedule_of(one, other, plan)
        found = judged(schedule, all_windows(schedule, lag), LOOKING, known)
        if isinstance(found, Right):
            shorter = [wrong for wrong in wrongs if len(wrong) < len(plan)]
            return Shortest(plan, found.states, {wrong: wrongs[wrong] for wrong in shorter})
        wrongs[plan] = found.deeds
    return NoPlan(wrongs)


def least_steps(one, other, *, lag=1):
    """Returns the length of the shortest right plans, or None."""
    found = weave(one, other, lag=lag)
    return len(found.plan) if isinstance(found, Shortest) else None
