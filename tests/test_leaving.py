"""Point 9: offers, lots, the good and the greatest ones, and Spared."""

import itertools
import random
import unittest

from editionlag.errors import BadEdition, BadLag, BadOffers, BadSchedule, TooLarge
from editionlag.judging import Right, Wrong
from editionlag.leaving import Spared, greatest_lots, left_out, lots, spare
from editionlag.looks import NoWay, comes_home
from editionlag.schedules import Schedule
from editionlag.states import all_states
from tests import model
from tests.test_judging import some_schedules
from tests.test_states import THOUSAND
from tests.wrong import HUGE, NO_LAGS, NO_SCHEDULES, SHORT, STRANGE, Agreeable, check_door, refused

WISHES = ("left", "missed", "stray")
ABSENT, DELETE, PUBLIC, WRITE = ("absent",), ("delete",), ("public",), ("write",)
TO_DELETE, TO_WRITE, TO_PUBLIC = ("edition", DELETE), ("edition", WRITE), ("edition", PUBLIC)
CAREFUL = Schedule(1, ABSENT, (TO_DELETE, TO_WRITE, TO_WRITE, ("fill", 0), TO_PUBLIC, TO_PUBLIC))
# Two of three sweeps can be left out.
SWEPT = Schedule(2, PUBLIC, (("edition", ABSENT), ("sweep", 0), ("sweep", 0), ("sweep", 0)))
# The greatest lots have different lengths.
MIXED = Schedule(2, ("public", "absent"), (
    ("edition", ("delete", "write")), ("sweep", 0), ("edition", ("absent", "delete")), ("sweep", 0), ("sweep", 0),
))
TO_MIXED = ("absent", "delete")
# More than 1000 states come about without the step 0 alone.
SWELLING = Schedule(3, ("public", "absent"), (
    ("edition", ("public", "write")), ("edition", ("absent", "write")), ("sweep", 1), ("sweep", 0), ("sweep", 0),
    ("sweep", 0),
))
NO_OFFERS = STRANGE + (
    None, 0, (), [0], [0, 1], "0", (0, 0), (1, 0), (0, 2, 1), (6,), (0, 6), (-1, 0), (-1,), (True,), (0, True), (False,),
    (0, None), ("0",), (0, "1"), ((0,),), (0, [1]), (0, 1, 2, 3, 4, 5), {0: 1}, (Agreeable(),), (0, Agreeable()),
)


def lots_of(offers):
    """All lots, in order, by the library."""
    return [lot for size in range(len(offers) + 1) for lot in itertools.combinations(offers, size)]


def parts_without(schedule, lot):
    steps = tuple(step for number, step in enumerate(schedule.steps) if number not in lot)
    return schedule.width, schedule.first, steps


def is_well_told(schedule, offers, last, lag, good, fails):
    """Whether both dicts are as in a Spared, in any order, by the words of the document."""
    homes = [lot for lot in lots_of(offers) if model.comes_home(*parts_without(schedule, lot), lag, last)]
    greatest = [lot for lot in homes if not any(set(lot) < set(other) for other in homes)]
    rest = [lot for lot in lots_of(offers) if not any(set(lot) <= set(other) for other in greatest)]
    if sorted(good) != sorted(greatest) or sorted(fails) != sorted(rest):
        return False
    for lot in greatest:
        if not model.closed(*parts_without(schedule, lot), lag, good[lot], WISHES):
            return False
    for lot in rest:
        width, first, steps = parts_without(schedule, lot)
        editions = model.editions_of(first, steps)
        if any(editions[number] != last for number in model.window_of(first, steps, len(steps), lag)):
            if fails[lot] is not None:
                return False
        elif fails[lot] is None or not model.weaving(width, first, steps, lag, fails[lot], WISHES):
            return False
    return True


class Lots(unittest.TestCase):
    def test_in_their_order(self):
        self.assertEqual(lots(CAREFUL, (2,)), [(), (2,)])
        self.assertEqual(lots(CAREFUL, (1, 3, 4)), [(), (1,), (3,), (4,), (1, 3), (1, 4), (3, 4), (1, 3, 4)])
        for size in range(1, 6):
            for offers in itertools.combinations(range(6), size):
                found = lots(CAREFUL, offers)
                self.assertEqual(found, lots_of(offers))
                self.assertEqual(len(found), 2 ** size)

    def test_numbers_of_two_digits(self):
        schedule = Schedule(1, WRITE, (("fill", 0),) * 12)
        self.assertEqual(lots(schedule, (2, 9, 10, 11)), lots_of((2, 9, 10, 11)))

    def test_the_list_is_new(self):
        lots(CAREFUL, (0, 1)).clear()
        self.assertEqual(len(lots(CAREFUL, (0, 1))), 4)

    def test_wrong_arguments(self):
        check_door(self, lots, [CAREFUL, (0, 5)], [(0, NO_SCHEDULES, BadSchedule, None), (1, NO_OFFERS, BadOffers)])

    def test_a_schedule_without_steps(self):
        for offers in ((0,), (), (-1,)):
            refused(self, lambda: lots(Schedule(1, WRITE, ()), offers), BadOffers)


class LeftOut(unittest.TestCase):
    def test_the_schedule_without_a_lot(self):
        for size in (1, 2, 5):
            for offers in itertools.combinations(range(6), size):
                for lot in lots_of(offers):
                    self.assertEqual(left_out(CAREFUL, offers, lot), Schedule(*parts_without(CAREFUL, lot)))
        self.assertEqual(left_out(CAREFUL, (0,), ()), CAREFUL)
        self.assertEqual(len(CAREFUL), 6)

    def test_wrong_arguments(self):
        no_lots = NO_OFFERS[:20] + (
            None, 0, [], [0], "0", (0, 0), (4, 0), (0, 1), (1,), (5,), (0, 4, 5), (-1,), (False,), (0, None), ((0,),),
            (0, 4.0), (Agreeable(),),
        )
        wrongs = [(0, NO_SCHEDULES, BadSchedule, None), (1, NO_OFFERS, BadOffers), (2, no_lots, BadOffers)]
        check_door(self, left_out, [CAREFUL, (0, 4), (0, 4)], wrongs)
        refused(self, lambda: left_out(CAREFUL, (1, 4), (True,)), BadOffers)
        refused(self, lambda: left_out(CAREFUL, (0, 4), [lots, lots][:0]), BadOffers)


class Spares(unittest.TestCase):
    def check(self, schedule, offers, last, lag):
        found = spare(schedule, offers, last, lag=lag)
        self.assertIs(found.__class__, Spared)
        self.assertTrue(is_well_told(schedule, offers, last, lag, found.good, found.fails))
        self.assertTrue(found.shows(schedule, offers, last, lag=lag))
        order = lots_of(offers)
        self.assertEqual(list(found.good), [lot for lot in order if lot in found.good])
        self.assertEqual(list(found.fails), [lot for lot in order if lot in found.fails])
        self.assertEqual(greatest_lots(schedule, offers, last, lag=lag), list(found.good))
        return found

    def test_by_hand(self):
        found = self.check(SWEPT, (1, 2, 3), ABSENT, 0)
        self.assertEqual(list(found.good), [(1, 2), (1, 3), (2, 3)])
        self.assertEqual(list(found.fails), [(1, 2, 3)])
        found = self.check(SWEPT, (0, 1, 2, 3), ABSENT, 0)
        self.assertEqual(list(found.good), [(1, 2), (1, 3), (2, 3)])
        self.assertEqual([lot for lot in found.fails if found.fails[lot] is None], [
            lot for lot in lots_of((0, 1, 2, 3)) if 0 in lot
        ])
        found = self.check(MIXED, (0, 1, 2, 3, 4), TO_MIXED, 0)
        self.assertEqual(list(found.good), [(3, 4), (0, 1, 3), (0, 1, 4)])

    def test_one_offer(self):
        found = self.check(CAREFUL, (5,), PUBLIC, 1)
        self.assertEqual(list(found.good), [()])
        self.assertEqual(found.fails, {(5,): None})
        found = self.check(CAREFUL, (0,), PUBLIC, 1)
        self.assertEqual(list(found.fails), [(0,)])
        self.assertTrue(Wrong(found.fails[(0,)]).shows(left_out(CAREFUL, (0,), (0,)), "stray"))
        found = self.check(CAREFUL, (0,), PUBLIC, 0)
        self.assertEqual(list(found.good), [(0,)])
        self.assertEqual(found.fails, {})

    def test_five_offers(self):
        found = self.check(CAREFUL, (0, 1, 2, 4, 5), PUBLIC, 0)
        self.assertEqual(list(found.good), [(0, 1, 4), (0, 1, 5), (0, 2, 4), (0, 2, 5)])
        found = self.check(CAREFUL, (1, 2, 3, 4, 5), PUBLIC, 1)
        self.assertEqual(list(found.good), [()])
        self.assertEqual(len(found.fails), 31)

    def test_no_lot_is_good(self):
        for last in (WRITE, ABSENT):
            found = self.check(CAREFUL, (0, 1), last, 1)
            self.assertEqual(found.good, {})
            self.assertEqual(found.fails, {lot: None for lot in lots_of((0, 1))})
        self.assertEqual(greatest_lots(SHORT, (1,), PUBLIC), [])
        self.check(SHORT, (1,), PUBLIC, 1)

    def test_bad_lots_within_a_good_one(self):
        """What is bad within a greatest lot is in neither dict: leaving out more heals it."""
        schedule = Schedule(1, WRITE, (("edition", ABSENT), ("edition", WRITE), TO_PUBLIC))
        found = self.check(schedule, (0, 1), PUBLIC, 0)
        self.assertEqual(list(found.good), [(0, 1)])
        self.assertFalse(comes_home(left_out(schedule, (0, 1), (1,)), PUBLIC, lag=0))
        self.assertEqual(found.fails, {})

    def test_a_weaving_to_each_wish(self):
        seen = set()
        for schedule, offers, last, lag in (
            (SWEPT, (1, 2, 3), ABSENT, 0), (CAREFUL, (0,), PUBLIC, 1), (CAREFUL, (3,), PUBLIC, 1),
        ):
            found = self.check(schedule, offers, last, lag)
            for lot, deeds in found.fails.items():
                for wish in WISHES:
                    if Wrong(deeds).shows(left_out(schedule, offers, lot), wish, lag=lag):
                        seen.add(wish)
        self.assertEqual(seen, set(WISHES))

    def test_against_the_model(self):
        chance = random.Random(9)
        seen = set()
        for schedule in some_schedules(90):
            if not len(schedule):
                continue
            size = chance.randint(1, min(3, len(schedule)))
            offers = tuple(sorted(chance.sample(range(len(schedule)), size)))
            lag = chance.choice((0, 1, 4))
            found = self.check(schedule, offers, schedule.editions()[-1], lag)
            seen.add((lag, bool(found.good), bool(found.fails)))
        self.assertGreater(len(seen), 6)

    def test_the_default_lag_is_1(self):
        self.assertEqual(spare(CAREFUL, (0,), PUBLIC), spare(CAREFUL, (0,), PUBLIC, lag=1))
        self.assertEqual(greatest_lots(CAREFUL, (0,), PUBLIC), [()])
        self.assertEqual(greatest_lots(CAREFUL, (0,), PUBLIC, lag=0), [(0,)])
        self.assertFalse(spare(CAREFUL, (0,), PUBLIC).shows(CAREFUL, (0,), PUBLIC, lag=0))

    def test_what_is_returned_is_new(self):
        found = spare(SWEPT, (1, 2, 3), ABSENT, lag=0)
        for lot in found.good:
            found.good[lot].clear()
        found.fails[(1, 2, 3)].clear()
        greatest_lots(SWEPT, (1, 2, 3), ABSENT, lag=0).clear()
        self.check(SWEPT, (1, 2, 3), ABSENT, 0)
        self.assertFalse(found.shows(SWEPT, (1, 2, 3), ABSENT, lag=0))


class Large(unittest.TestCase):
    def test_more_without_one_lot(self):
        self.assertLessEqual(len(all_states(SWELLING)), 1000)
        self.assertLessEqual(len(all_states(left_out(SWELLING, (0, 4), (0, 4)))), 1000)
        refused(self, lambda: all_states(left_out(SWELLING, (0,), (0,))), TooLarge)
        for last in (("absent", "write"), ("public", "public")):
            for offers in ((0,), (0, 4)):
                refused(self, lambda: spare(SWELLING, offers, last), TooLarge)
                refused(self, lambda: greatest_lots(SWELLING, offers, last), TooLarge)
            spare(SWELLING, (4,), last)

    def test_more_with_all_steps_and_a_thousand(self):
        refused(self, lambda: spare(HUGE, (0,), ("absent", "absent"), lag=0), TooLarge)
        last = THOUSAND.editions()[-1]
        found = spare(THOUSAND, (5,), last, lag=4)
        self.assertTrue(found.shows(THOUSAND, (5,), last, lag=4))

    def test_the_other_errors_first(self):
        for door in (spare, greatest_lots):
            refused(self, lambda: door(HUGE, (0,), WRITE), BadEdition)
            refused(self, lambda: door(HUGE, (12,), WRITE), BadOffers)
            refused(self, lambda: door(HUGE, (12,), WRITE, lag=5), BadLag)

    def test_lots_left_out_and_shows_do_not_ask(self):
        self.assertEqual(lots(HUGE, (0, 11)), [(), (0,), (11,), (0, 11)])
        self.assertEqual(len(left_out(HUGE, (0, 11), (0,))), 11)
        last = ("public", "public")
        self.assertTrue(Spared({}, {(): None, (0,): None}).shows(SWELLING, (0,), last))
        self.assertFalse(Spared({}, {(): None, (0,): []}).shows(SWELLING, (0,), last))
        self.assertFalse(Spared({}, {}).shows(HUGE, (0,), last))


class Shows(unittest.TestCase):
    SIGHTS = ((SWEPT, (0, 1, 2, 3), ABSENT, 0), (MIXED, (0, 1, 2, 3, 4), TO_MIXED, 0), (CAREFUL, (0, 1, 5), PUBLIC, 1),
              (SHORT, (0, 1), PUBLIC, 1))

    def check(self, asked, good, fails):
        """Asserts that the model agrees with what a Spared of both dicts shows."""
        schedule, offers, last, lag = asked
        found = Spared(good, fails).shows(schedule, offers, last, lag=lag)
        self.assertIs(found, is_well_told(*asked, good, fails))
        return found

    def told(self, asked):
        found = spare(*asked[:3], lag=asked[3])
        return found.good, found.fails

    def test_another_order(self):
        for asked in self.SIGHTS:
            good, fails = self.told(asked)
            good = {lot: good[lot][::-1] + good[lot][:2] for lot in list(good)[::-1]}
            fails = {lot: fails[lot] for lot in list(fails)[::-1]}
            self.assertTrue(self.check(asked, good, fails))

    def test_a_lot_left_out(self):
        for asked in self.SIGHTS:
            good, fails = self.told(asked)
            for lot in good:
                self.assertFalse(self.check(asked, {one: good[one] for one in good if one != lot}, fails))
            for lot in fails:
                self.assertFalse(self.check(asked, good, {one: fails[one] for one in fails if one != lot}))
            self.assertFalse(self.check(asked, {}, {}))

    def test_a_lot_put_in(self):
        for asked in self.SIGHTS:
            good, fails = self.told(asked)
            for lot in lots_of(asked[1]):
                left = Schedule(*parts_without(asked[0], lot))
                if lot not in good:
                    self.assertFalse(self.check(asked, {**good, lot: all_states(left, lag=asked[3])}, fails))
                if lot not in fails:
                    for told in (None, [], [("begin",)]):
                        self.assertFalse(self.check(asked, good, {**fails, lot: told}))

    def test_a_lot_moved(self):
        for asked in self.SIGHTS:
            good, fails = self.told(asked)
            for lot in good:
                rest = {one: good[one] for one in good if one != lot}
                self.assertFalse(self.check(asked, rest, {**fails, lot: None}))
                self.assertFalse(self.check(asked, rest, {**fails, lot: [("begin",)]}))
            for lot in fails:
                rest = {one: fails[one] for one in fails if one != lot}
                left = Schedule(*parts_without(asked[0], lot))
                self.assertFalse(self.check(asked, {**good, lot: all_states(left, lag=asked[3])}, rest))

    def test_a_lot_that_fails_within_a_greatest_one(self):
        schedule = Schedule(1, WRITE, (("edition", ABSENT), ("edition", WRITE), TO_PUBLIC))
        asked = (schedule, (0, 1, 2), PUBLIC, 0)
        good, fails = self.told(asked)
        self.assertEqual((list(good), fails), ([(0, 1)], {lot: None for lot in lots_of((0, 1, 2)) if 2 in lot}))
        deeds = [("put", 0, 0), ("begin",), ("cut", 1), ("begin",)]
        self.assertTrue(Wrong(deeds).shows(left_out(schedule, (1,), (1,)), "stray", lag=0))
        self.assertFalse(self.check(asked, good, {**fails, (1,): deeds}))
        del fails[(2,)]
        self.assertFalse(self.check(asked, good, {**fails, (1,): deeds}))

    def test_a_lot_without_which_something_is_left(self):
        states = all_states(left_out(SWEPT, (1, 2, 3), (1, 2, 3)), lag=0)
        self.assertTrue(Right(states).shows(left_out(SWEPT, (1, 2, 3), (1, 2, 3)), "stray", lag=0))
        self.assertFalse(self.check((SWEPT, (1, 2, 3), ABSENT, 0), {(1, 2, 3): states}, {}))

    def test_a_good_lot_that_is_not_a_greatest_one(self):
        good, fails = self.told(self.SIGHTS[0])
        within = all_states(left_out(SWEPT, (1,), (1,)), lag=0)
        self.assertTrue(comes_home(left_out(SWEPT, (1,), (1,)), ABSENT, lag=0))
        self.assertFalse(self.check(self.SIGHTS[0], {**good, (1,): within}, fails))
        asked = (SWEPT, (1,), ABSENT, 0)
        good, fails = self.told(asked)
        self.assertEqual((list(good), fails), ([(1,)], {}))
        self.assertFalse(self.check(asked, {(): all_states(SWEPT, lag=0)}, {}))

    def test_states_changed(self):
        for asked in self.SIGHTS[:3]:
            good, fails = self.told(asked)
            for lot in good:
                for at in range(0, len(good[lot]), 7):
                    states = good[lot][:at] + good[lot][at + 1:]
                    self.assertFalse(self.check(asked, {**good, lot: states}, fails))
                self.assertFalse(self.check(asked, {**good, lot: []}, fails))
        good, fails = self.told(self.SIGHTS[0])
        # In the end, something is left, something is missed, or something is strange.
        for state in ((2, False, None, ((0,),)), (0, False, 1, ((),)), (0, False, None, ((1,),)), None, (0,)):
            states = {lot: good[lot] + [state] for lot in good}
            self.assertFalse(Spared(states, fails).shows(SWEPT, (0, 1, 2, 3), ABSENT, lag=0))

    def test_weavings_changed(self):
        for asked in self.SIGHTS:
            good, fails = self.told(asked)
            for lot in fails:
                told = fails[lot]
                changed = [None, [], [("begin",)]] if told is None else [None, [], told[:-1], told[1:], told * 2]
                changed += [] if told is None else [told[:at] + [("begin",)] + told[at:] for at in range(len(told))]
                for other in changed:
                    self.check(asked, good, {**fails, lot: other})
                if told is None:
                    self.assertFalse(self.check(asked, good, {**fails, lot: []}))
                else:
                    self.assertFalse(self.check(asked, good, {**fails, lot: None}))

    def test_weavings_that_cannot_be_done(self):
        asked = self.SIGHTS[0]
        good, fails = self.told(asked)
        lot = (1, 2, 3)
        for strange in (("begin", 0), ("cut", 7), ("put", True, 0), ("visit",), (), None, "begin", Agreeable()):
            for at in range(len(fails[lot]) + 1):
                deeds = fails[lot][:at] + [strange] + fails[lot][at:]
                self.assertFalse(Spared(good, {**fails, lot: deeds}).shows(*asked[:3], lag=0))

    def test_what_is_no_lot(self):
        for asked in self.SIGHTS:
            good, fails = self.told(asked)
            for strange in ((9,), (1, 0), (0, 0), (-1,), (0, None), None, 0, "0", (None,), (0, 1, 2, 3, 4, 5)):
                self.assertFalse(Spared({**good, strange: []}, fails).shows(*asked[:3], lag=asked[3]))
                self.assertFalse(Spared(good, {**fails, strange: None}).shows(*asked[:3], lag=asked[3]))

    def test_booleans_are_no_numbers_of_steps(self):
        found = spare(CAREFUL, (0,), PUBLIC, lag=0)
        self.assertFalse(Spared({(False,): found.good[(0,)]}, {}).shows(CAREFUL, (0,), PUBLIC, lag=0))
        found = spare(CAREFUL, (1,), PUBLIC)
        self.assertTrue(Spared(found.good, {(1,): found.fails[(1,)]}).shows(CAREFUL, (1,), PUBLIC))
        self.assertFalse(Spared(found.good, {(True,): found.fails[(1,)]}).shows(CAREFUL, (1,), PUBLIC))

    def test_for_others(self):
        found = spare(CAREFUL, (0, 1, 5), PUBLIC)
        for schedule, offers, last, lag in (
            (CAREFUL, (0, 1), PUBLIC, 1), (CAREFUL, (0, 1, 4), PUBLIC, 1), (CAREFUL, (0, 1, 5), WRITE, 1),
            (CAREFUL, (0, 1, 5), PUBLIC, 0), (CAREFUL, (0, 1, 5), PUBLIC, 2),
            (Schedule(1, DELETE, CAREFUL.steps), (0, 1, 5), PUBLIC, 1),
        ):
            self.assertFalse(found.shows(schedule, offers, last, lag=lag))

    def test_the_current_attributes_tell(self):
        found = spare(SWEPT, (1, 2, 3), ABSENT, lag=0)
        found.fails[(1, 2, 3)].pop()
        self.assertFalse(found.shows(SWEPT, (1, 2, 3), ABSENT, lag=0))
        found.fails = spare(SWEPT, (1, 2, 3), ABSENT, lag=0).fails
        self.assertTrue(found.shows(SWEPT, (1, 2, 3), ABSENT, lag=0))
        found.good = {}
        self.assertFalse(found.shows(SWEPT, (1, 2, 3), ABSENT, lag=0))

    def test_shows_modifies_nothing(self):
        found = spare(MIXED, (0, 1, 3), TO_MIXED, lag=0)
        found.shows(MIXED, (0, 1, 3), TO_MIXED, lag=0)
        self.assertEqual(found, spare(MIXED, (0, 1, 3), TO_MIXED, lag=0))


class Equality(unittest.TestCase):
    GOOD = {(0,): [(0, False, None, ((),))], (1, 2): []}
    FAILS = {(0, 1): None, (0, 2): [("begin",)]}

    def test_the_dicts_are_copied_with_the_lists_in_them(self):
        good = {lot: list(states) for lot, states in self.GOOD.items()}
        fails = {(0, 1): None, (0, 2): [("begin",)]}
        found = Spared(good, fails)
        good[(0,)].clear()
        fails[(0, 2)].append(None)
        good[(5,)] = fails[(5,)] = []
        self.assertEqual((found.good, found.fails), (self.GOOD, self.FAILS))

    def test_equal_if_both_are(self):
        turned = [dict(list(told.items())[::-1]) for told in (self.GOOD, self.FAILS)]
        self.assertTrue(Spared(self.GOOD, self.FAILS) == Spared(*turned))
        self.assertFalse(Spared(good=self.GOOD, fails=self.FAILS) != Spared(*turned))

    def test_not_equal_otherwise(self):
        one = Spared(self.GOOD, self.FAILS)
        for other in (
            Spared({}, self.FAILS), Spared(self.GOOD, {}), Spared({**self.GOOD, (0,): []}, self.FAILS),
            Spared(self.GOOD, {**self.FAILS, (0, 1): []}), Spared(self.GOOD, {**self.FAILS, (7,): None}),
            Spared(self.FAILS, self.GOOD), Right([]), Wrong([]), NoWay({}), None, self.GOOD, (self.GOOD, self.FAILS),
            Agreeable(), CAREFUL, Spared,
        ):
            self.assertFalse(one == other)
            self.assertTrue(one != other)


class WrongArguments(unittest.TestCase):
    def test_spare_greatest_lots_and_shows(self):
        lasts = STRANGE + (None, 0, 2, ("write", "write"), (), ["write"], ("Write",), (True,), (Agreeable(),), WRITE * 3)
        wrongs = [
            (0, NO_SCHEDULES, BadSchedule, None), ("lag", NO_LAGS, BadLag), (1, NO_OFFERS, BadOffers),
            (2, lasts, BadEdition),
        ]
        for door in (spare, greatest_lots, Spared({}, {}).shows):
            check_door(self, door, [CAREFUL, (0, 5), PUBLIC], wrongs, "lag")
            refused(self, lambda: door(None, (), None, lag=None), BadSchedule, None)
            refused(self, lambda: door(Schedule(1, WRITE, ()), (0,), WRITE), BadOffers)
            self.assertRaises(TypeError, door, CAREFUL, (0, 5), PUBLIC, 1)

    def test_a_call_that_is_refused_changes_nothing(self):
        found = spare(CAREFUL, (0, 5), PUBLIC)
        refused(self, lambda: found.shows(CAREFUL, (), PUBLIC), BadOffers)
        self.assertEqual(found, spare(CAREFUL, (0, 5), PUBLIC))


if __name__ == "__main__":
    unittest.main()
