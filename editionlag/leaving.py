"""Steps that can be left out of a schedule that is to come home."""

from editionlag.checks import check_lag, is_ascending
from editionlag.errors import BadEdition, BadOffers
from editionlag.judging import WISHES, Right, are_kept, copied, is_broken
from editionlag.looks import ends_with, judged_home
from editionlag.schedules import all_windows, check_schedule, is_edition

MOST_OFFERS = 5


def check_offers(schedule, offers):
    if not is_ascending(offers, len(schedule) - 1) or not 1 <= len(offers) <= MOST_OFFERS:
        raise BadOffers("not an ascending tuple of one to five numbers of steps")


def check_spare(schedule, offers, last, lag):
    check_schedule(schedule)
    check_lag(lag)
    check_offers(schedule, offers)
    if not is_edition(last, len(schedule.first)):
        raise BadEdition("not an edition for as many indexes")


def is_lot(lot, offers):
    return is_ascending(lot, offers[-1]) and is_within(lot, offers)


def is_within(lot, other):
    return all([number in other for number in lot])


def is_within_any(lot, others):
    return any([is_within(lot, other) for other in others])


def all_lots(offers):
    """Returns the lots of offers, in order."""
    found = [()]
    for number in offers:
        found = found + [(*lot, number) for lot in found]
    return sorted(found, key=lambda lot: (len(lot), lot))


def greatest_of(found):
    """Returns those of some lots that are within no other one of them, in order."""
    return [lot for lot in found if not is_within_any(lot, [other for other in found if other != lot])]


def without_lot(schedule, lot):
    """Returns the schedule without some steps."""
    kept = [step for number, step in enumerate(schedule.steps) if number not in lot]
    return schedule.with_steps(tuple(kept))


class Spared:
    """The greatest lots that can be left out, and the lots that cannot, with what shows it."""

    def __init__(self, good, fails):
        self.good = copied(good)
        self.fails = copied(fails)

    def __eq__(self, other):
        return isinstance(other, Spared) and self.good == other.good and self.fails == other.fails

    def shows(self, schedule, offers, last, *, lag=1):
        """Tells whether these are the greatest lots, and those within none of them, each with what shows it."""
        check_spare(schedule, offers, last, lag)
        if not are_all_told(self.good, self.fails, offers):
            return False
        if not all([is_good(schedule, lot, last, lag, self.good[lot]) for lot in self.good]):
            return False
        return all([is_failing(schedule, lot, last, lag, self.fails[lot]) for lot in self.fails])


def are_all_told(good, fails, offers):
    """Tells whether no good lot is within another one, and the failing ones are those within no good one."""
    if not all([is_lot(lot, offers) for lot in list(good) + list(fails)]):
        return False
    if greatest_of(list(good)) != list(good):
        return False
    rest = [lot for lot in all_lots(offers) if not is_within_any(lot, list(good))]
    return len(rest) == len(fails) and all([lot in fails for lot in rest])


def is_good(schedule, lot, last, lag, states):
    """Tells whether states show that the schedule without a lot comes home."""
    left = without_lot(schedule, lot)
    windows = all_windows(left, lag)
    return ends_with(left, windows, last) and are_kept(left, windows, states, WISHES)


def is_failing(schedule, lot, last, lag, history):
    """Tells whether deeds, or None, show that the schedule without a lot does not come home."""
    left = without_lot(schedule, lot)
    windows = all_windows(left, lag)
    if not ends_with(left, windows, last):
        return history is None
    return is_broken(left, windows, history, WISHES)


def lots(schedule, offers):
    """Returns the list of all lots of offers, in order."""
    check_schedule(schedule)
    check_offers(schedule, offers)
    return all_lots(offers)


def left_out(schedule, offers, lot):
    """Returns the schedule without a lot."""
    check_schedule(schedule)
    check_offers(schedule, offers)
    if not is_lot(lot, offers):
        raise BadOffers("not a lot of the offers")
    return without_lot(schedule, lot)


def spare(schedule, offers, last, *, lag=1):
    """Returns a Spared for offers."""
    check_spare(schedule, offers, last, lag)
    found = {lot: judged_home(without_lot(schedule, lot), last, lag) for lot in all_lots(offers)}
    greatest = greatest_of([lot for lot in found if isinstance(found[lot], Right)])
    good = {lot: found[lot].states for lot in greatest}
    rest = [lot for lot in found if not is_within_any(lot, greatest)]
    fails = {lot: None if found[lot] is None else found[lot].deeds for lot in rest}
    return Spared(good, fails)


def greatest_lots(schedule, offers, last, *, lag=1):
    """Returns the list of all greatest lots, in order."""
    return list(spare(schedule, offers, last, lag=lag).good)
