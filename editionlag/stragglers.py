"""Servers that stay behind for ever, each by one edition."""

from editionlag.checks import check_lag, is_number
from editionlag.judging import LOOKING, Right, are_kept, copied, is_broken, judged
from editionlag.schedules import all_windows, check_schedule


def windows_with(schedule, lag, straggler):
    """Returns the windows in which the edition of a straggler is, too, as soon as it is put out."""
    found = []
    for numbers in all_windows(schedule, lag):
        stays = straggler < numbers[0]
        found.append([straggler] + numbers if stays else numbers)
    return found


class Stayed:
    """The stragglers that do no harm, and those that do, with what shows it."""

    def __init__(self, good, fails):
        self.good = copied(good)
        self.fails = copied(fails)

    def __eq__(self, other):
        return isinstance(other, Stayed) and self.good == other.good and self.fails == other.fails

    def shows(self, schedule, *, lag=1):
        """Tells whether each straggler is told once, with states or deeds that show it."""
        check_schedule(schedule)
        check_lag(lag)
        newest = len(schedule.editions()) - 1
        numbers = list(self.good) + list(self.fails)
        if not all([is_number(number, newest) for number in numbers]) or sorted(numbers) != list(range(newest + 1)):
            return False
        windows = [windows_with(schedule, lag, number) for number in range(newest + 1)]
        shown = [are_kept(schedule, windows[number], self.good[number], LOOKING) for number in self.good]
        failing = [is_broken(schedule, windows[number], self.fails[number], LOOKING) for number in self.fails]
        return all(shown + failing)


def stay(schedule, *, lag=1):
    """Returns a Stayed for a schedule."""
    check_schedule(schedule)
    check_lag(lag)
    good, fails, known = {}, {}, {}
    for number, _ in enumerate(schedule.editions()):
        found = judged(schedule, windows_with(schedule, lag, number), LOOKING, known)
        if isinstance(found, Right):
            good[number] = found.states
        else:
            fails[number] = found.deeds
    return Stayed(good, fails)


def harmless(schedule, *, lag=1):
    """Returns the ascending list of the numbers of the stragglers that do no harm."""
    return list(stay(schedule, lag=lag).good)
