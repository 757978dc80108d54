"""How far servers may lag by each edition."""

from editionlag.checks import is_number
from editionlag.errors import BadWaits, TooLarge
from editionlag.judging import LOOKING, Right, are_kept, copied, is_broken, judged
from editionlag.schedules import check_schedule, windows_by

MOST_WAIT = 2
MOST_EDITIONS = 4


def check_few_editions(schedule):
    check_schedule(schedule)
    if len(schedule.editions()) > MOST_EDITIONS:
        raise TooLarge(f"more than {MOST_EDITIONS} editions")


def are_waits(schedule, waits):
    """Tells whether something is waits of a schedule."""
    if not isinstance(waits, tuple) or len(waits) != len(schedule.editions()) - 1:
        return False
    return all([is_number(number, MOST_WAIT) for number in waits])


def all_waits(schedule):
    """Returns the list of all waits of a schedule, ascending."""
    found = [()]
    for _ in schedule.editions()[1:]:
        found = [(*waits, number) for waits in found for number in range(MOST_WAIT + 1)]
    return found


def windows_of(schedule, waits):
    """Returns the windows with waits; by the first edition nobody can lag."""
    return windows_by(schedule, (0, *waits))


def are_within(waits, others):
    return all([number <= other for number, other in zip(waits, others)])


def are_within_any(waits, found):
    return any([are_within(waits, others) for others in found])


def greatest_of(found):
    """Returns those of some waits that are within no other ones of them."""
    return [waits for waits in found if not are_within_any(waits, [others for others in found if others != waits])]


class Longest:
    """The greatest waits, and the waits that are not right, with what shows it."""

    def __init__(self, good, fails):
        self.good = copied(good)
        self.fails = copied(fails)

    def __eq__(self, other):
        return isinstance(other, Longest) and self.good == other.good and self.fails == other.fails

    def shows(self, schedule):
        """Tells whether these are the greatest waits, and those within none of them, each with what shows it."""
        check_few_editions(schedule)
        if not are_all_told(schedule, list(self.good), list(self.fails)):
            return False
        for waits in self.good:
            if not are_kept(schedule, windows_of(schedule, waits), self.good[waits], LOOKING):
                return False
        for waits in self.fails:
            if not is_broken(schedule, windows_of(schedule, waits), self.fails[waits], LOOKING):
                return False
        return True


def are_all_told(schedule, good, fails):
    """Tells whether no good waits are within other ones, and the failing ones are those within no good ones."""
    if not all([are_waits(schedule, waits) for waits in good + fails]) or greatest_of(good) != good:
        return False
    return sorted(fails) == [waits for waits in all_waits(schedule) if not are_within_any(waits, good)]


def are_right_waits(schedule, waits):
    """Tells whether waits are right."""
    check_schedule(schedule)
    if not are_waits(schedule, waits):
        raise BadWaits("not waits of the schedule")
    return isinstance(judged(schedule, windows_of(schedule, waits), LOOKING), Right)


def wait(schedule):
    """Returns a Longest for a schedule."""
    check_few_editions(schedule)
    known = {}
    found = {waits: judged(schedule, windows_of(schedule, waits), LOOKING, known) for waits in all_waits(schedule)}
    greatest = greatest_of([waits for waits in found if isinstance(found[waits], Right)])
    rest = [waits for waits in found if not are_within_any(waits, greatest)]
    return Longest({waits: found[waits].states for waits in greatest}, {waits: found[waits].deeds for waits in rest})


def greatest_waits(schedule):
    """Returns the ascending list of all greatest waits."""
    return list(wait(schedule).good)
