"""Point 15: waits, the greatest ones, and Longest."""

import itertools
import random
import unittest

from editionlag.errors import BadSchedule, BadWaits, TooLarge
from editionlag.judging import Right, Wrong, is_right
from editionlag.leaving import Spared
from editionlag.schedules import Schedule
from editionlag.states import all_states
from editionlag.stragglers import Stayed
from editionlag.waits import Longest, are_right_waits, greatest_waits, wait
from tests import model
from tests.test_judging import parts, some_schedules
from tests.wrong import HUGE, NO_SCHEDULES, SHORT, STRANGE, Agreeable, check_door, refused

LOOKING = ("missed", "stray")
ABSENT, DELETE, PUBLIC, WRITE = ("absent",), ("delete",), ("public",), ("write",)
TO_ABSENT, TO_DELETE, TO_PUBLIC, TO_WRITE = [("edition", word) for word in (ABSENT, DELETE, PUBLIC, WRITE)]
FILL, SWEEP = ("fill", 0), ("sweep", 0)
NARROW = Schedule(1, ABSENT, (TO_WRITE, FILL, TO_PUBLIC))
LATE = Schedule(1, ABSENT, (TO_DELETE, TO_WRITE, FILL, TO_PUBLIC))
STILL = Schedule(1, WRITE, ())
FIVE = Schedule(1, ABSENT, (TO_DELETE, TO_WRITE, TO_WRITE, FILL, TO_PUBLIC))
# What is filled behind its edition breaks a wish, whoever waits.
BARE = Schedule(1, PUBLIC, (SWEEP,))
GONE = Schedule(2, PUBLIC, (TO_WRITE, TO_DELETE, TO_ABSENT, SWEEP))
# 1000 states come about with some waits, and not more with others.
THOUSAND = Schedule(3, ("public", "absent"), (("edition", ("absent", "public")), ("sweep", 1)) + (("fill", 1),) * 3)
# One fill more is too much, but with the waits (0,).
SWELLING = THOUSAND.with_steps(THOUSAND.steps + (("fill", 1),))


def all_waits(schedule):
    return list(itertools.product(range(3), repeat=len(schedule.editions()) - 1))


def is_within(waits, others):
    return all(one <= other for one, other in zip(waits, others))


def are_right(schedule, waits):
    return model.is_right(*parts(schedule), ("waits", waits))


def is_well_told(schedule, good, fails):
    """Whether both dicts are as in a Longest, in any order, by the model."""
    right = [waits for waits in all_waits(schedule) if are_right(schedule, waits)]
    greatest = [waits for waits in right if not any(is_within(waits, other) for other in right if other != waits)]
    rest = [waits for waits in all_waits(schedule) if not any(is_within(waits, other) for other in greatest)]
    if sorted(good) != greatest or sorted(fails) != rest:
        return False
    for waits in greatest:
        if not model.closed(*parts(schedule), ("waits", waits), good[waits], LOOKING):
            return False
    return all(
        fails[waits] is not None and model.weaving(*parts(schedule), ("waits", waits), fails[waits], LOOKING)
        for waits in rest
    )


def some_with_few_editions(many):
    return [schedule for schedule in some_schedules(many) if len(schedule.editions()) <= 4]


class AreRightWaits(unittest.TestCase):
    def test_by_hand(self):
        self.assertEqual([waits for waits in all_waits(NARROW) if are_right_waits(NARROW, waits)], [(0, 0), (0, 1)])
        self.assertTrue(are_right_waits(LATE, (2, 0, 1)))
        self.assertFalse(are_right_waits(LATE, (0, 1, 0)))
        self.assertTrue(are_right_waits(STILL, ()))
        self.assertFalse(are_right_waits(BARE, ()))
        # While the newest edition is the write, nobody may go by the elder one; later, by the write at most.
        self.assertFalse(are_right_waits(NARROW, (1, 0)))
        self.assertFalse(are_right_waits(NARROW, (0, 2)))

    def test_against_the_model(self):
        seen = set()
        for schedule in some_with_few_editions(60):
            for waits in all_waits(schedule)[::2]:
                found = are_right_waits(schedule, waits)
                self.assertIs(found, are_right(schedule, waits))
                seen.add((found, len(waits)))
        self.assertEqual(len(seen), 8)

    def test_all_the_same_are_as_a_lag(self):
        for schedule in list(some_schedules(40)) + [FIVE]:
            for lag in range(3):
                waits = (lag,) * (len(schedule.editions()) - 1)
                self.assertEqual(are_right_waits(schedule, waits), is_right(schedule, lag=lag))

    def test_any_number_of_editions(self):
        self.assertTrue(are_right_waits(FIVE, (2, 1, 1, 1)))
        self.assertFalse(are_right_waits(FIVE, (2, 1, 2, 1)))
        twelve = Schedule(1, PUBLIC, (TO_PUBLIC,) * 12)
        self.assertTrue(are_right_waits(twelve, (2,) * 12))
        self.assertTrue(are_right_waits(twelve.with_steps((TO_WRITE,) * 12), (2,) * 12))
        gone = twelve.with_steps((TO_WRITE,) * 10 + (TO_ABSENT, TO_PUBLIC))
        self.assertFalse(are_right_waits(gone, (0,) * 12))

    def test_wrong_arguments(self):
        no_waits = STRANGE + (
            None, 0, (), (0,), (0, 0), (0, 0, 0, 0), [0, 0, 0], "000", (0, 0, 3), (3, 0, 0), (-1, 0, 0), (0, True, 0),
            (False, 0, 0), (0, 0, None), (0, "0", 0), ((0,), 0, 0), (0, 0, 10 ** 20), (0, 0, Agreeable()),
            (Agreeable(),) * 3, {0: 0, 1: 0, 2: 0}, (0, 0, [0]), LATE,
        )
        wrongs = [(0, NO_SCHEDULES, BadSchedule, None), (1, no_waits, BadWaits)]
        check_door(self, are_right_waits, [LATE, (0, 0, 0)], wrongs)
        for waits in ((0,), [], None, 0, ((),)):
            refused(self, lambda: are_right_waits(STILL, waits), BadWaits)
        refused(self, lambda: are_right_waits(HUGE, (0, 0)), BadWaits)
        refused(self, lambda: are_right_waits(None, None), BadSchedule, None)
        self.assertTrue(are_right_waits(schedule=LATE, waits=(0, 0, 0)))


class Waits(unittest.TestCase):
    def check(self, schedule):
        found = wait(schedule)
        self.assertIs(found.__class__, Longest)
        self.assertTrue(is_well_told(schedule, found.good, found.fails))
        self.assertTrue(found.shows(schedule))
        self.assertEqual(list(found.good), sorted(found.good))
        self.assertEqual(list(found.fails), sorted(found.fails))
        self.assertEqual(greatest_waits(schedule), list(found.good))
        return found

    def test_by_hand(self):
        self.assertEqual(greatest_waits(NARROW), [(0, 1)])
        self.assertEqual(greatest_waits(LATE), [(2, 0, 1)])
        found = self.check(NARROW)
        self.assertEqual(list(found.fails), [(0, 2), (1, 0), (1, 1), (1, 2), (2, 0), (2, 1), (2, 2)])
        found = self.check(Schedule(1, ABSENT, (TO_PUBLIC,)))
        self.assertEqual((found.good, list(found.fails)), ({}, [(0,), (1,), (2,)]))
        found = self.check(Schedule(1, PUBLIC, (TO_PUBLIC, TO_WRITE)))
        self.assertEqual((list(found.good), found.fails), ([(2, 2)], {}))

    def test_what_is_stray_alone(self):
        """The fill makes good what is missed, and not what is stray."""
        stray = Schedule(1, WRITE, (TO_ABSENT, TO_WRITE, FILL, TO_PUBLIC))
        self.assertEqual(model.soonest(*parts(stray), ("waits", (0, 0, 0)), "missed"), None)
        self.assertFalse(are_right_waits(stray, (0, 0, 0)))
        found = self.check(stray)
        self.assertEqual((found.good, len(found.fails)), ({}, 27))

    def test_one_edition(self):
        found = self.check(STILL)
        self.assertEqual((list(found.good), found.fails), ([()], {}))
        found = self.check(BARE)
        self.assertEqual((found.good, list(found.fails)), ({}, [()]))
        self.check(Schedule(2, DELETE, (FILL, SWEEP)))

    def test_editions_alone(self):
        chance = random.Random(15)
        seen = set()
        for _ in range(60):
            words = [chance.choice((ABSENT, DELETE, PUBLIC, WRITE)) for _ in range(4)]
            schedule = Schedule(1, words[0], tuple(("edition", word) for word in words[1:]) + (FILL,))
            seen.update(self.check(schedule).good)
        self.assertGreater(len(seen), 4)

    def test_four_editions_and_five(self):
        self.assertEqual(len(LATE.editions()), 4)
        self.check(LATE)
        self.assertEqual(len(FIVE.editions()), 5)
        refused(self, lambda: wait(FIVE), TooLarge)
        refused(self, lambda: greatest_waits(FIVE), TooLarge)
        refused(self, lambda: Longest({}, {}).shows(FIVE), TooLarge)
        # Other steps do not count.
        long = Schedule(1, ABSENT, (TO_DELETE, SWEEP, TO_WRITE, FILL, FILL, FILL, TO_PUBLIC, FILL, FILL))
        self.check(long)

    def test_against_the_model(self):
        seen = set()
        for schedule in some_with_few_editions(70):
            found = self.check(schedule)
            seen.add((len(found.good) > 0, len(found.fails) > 0, len(schedule.editions())))
        self.assertGreater(len(seen), 8)

    def test_what_is_returned_is_new(self):
        found = wait(LATE)
        for told in (found.good, found.fails):
            for waits in told:
                told[waits].clear()
        greatest_waits(LATE).clear()
        self.check(LATE)
        self.assertFalse(found.shows(LATE))


class Large(unittest.TestCase):
    def test_a_thousand_states_and_more(self):
        self.assertEqual(len(model.deeds_to(*parts(THOUSAND), ("waits", (1,)))), 1000)
        found = wait(THOUSAND)
        self.assertTrue(found.shows(THOUSAND))
        self.assertEqual(greatest_waits(THOUSAND), list(found.good))
        for waits in ((0,), (1,), (2,)):
            are_right_waits(THOUSAND, waits)
        self.assertGreater(len(model.deeds_to(*parts(SWELLING), ("waits", (1,)))), 1000)
        self.assertLess(len(model.deeds_to(*parts(SWELLING), ("waits", (0,)))), 1000)
        refused(self, lambda: wait(SWELLING), TooLarge)
        refused(self, lambda: greatest_waits(SWELLING), TooLarge)

    def test_are_right_waits_asks_for_its_waits_alone(self):
        self.assertIs(are_right_waits(SWELLING, (0,)), are_right(SWELLING, (0,)))
        for waits in ((1,), (2,)):
            refused(self, lambda: are_right_waits(SWELLING, waits), TooLarge)
        refused(self, lambda: are_right_waits(HUGE, (2,) * (len(HUGE.editions()) - 1)), TooLarge)

    def test_shows_asks_for_the_editions_alone(self):
        self.assertFalse(Longest({}, {}).shows(SWELLING))
        self.assertFalse(Longest({}, {waits: [] for waits in all_waits(SWELLING)}).shows(SWELLING))
        found = wait(THOUSAND)
        self.assertEqual(list(found.fails), [(0,), (1,), (2,)])
        self.assertTrue(Longest({}, found.fails).shows(SWELLING))
        refused(self, lambda: Longest({}, {}).shows(HUGE), TooLarge)
        refused(self, lambda: Longest({}, {}).shows(None), BadSchedule, None)


class Shows(unittest.TestCase):
    def asked(self):
        return NARROW, LATE, STILL, BARE, GONE, Schedule(2, PUBLIC, (TO_WRITE, TO_ABSENT, TO_PUBLIC))

    def check(self, schedule, good, fails):
        found = Longest(good, fails).shows(schedule)
        self.assertIs(found, is_well_told(schedule, good, fails))
        return found

    def told(self, schedule):
        found = wait(schedule)
        return found.good, found.fails

    def test_another_order(self):
        for schedule in self.asked():
            good, fails = self.told(schedule)
            good = {waits: good[waits][::-1] + good[waits][:2] for waits in list(good)[::-1]}
            fails = {waits: fails[waits] for waits in list(fails)[::-1]}
            self.assertTrue(self.check(schedule, good, fails))

    def test_waits_left_out(self):
        for schedule in self.asked():
            good, fails = self.told(schedule)
            for waits in good:
                self.assertFalse(self.check(schedule, {one: good[one] for one in good if one != waits}, fails))
            for waits in fails:
                self.assertFalse(self.check(schedule, good, {one: fails[one] for one in fails if one != waits}))
            self.assertFalse(self.check(schedule, {}, {}))

    def test_waits_put_in_or_moved(self):
        for schedule in self.asked():
            good, fails = self.told(schedule)
            states = all_states(schedule, lag=2)
            for waits in all_waits(schedule):
                if waits not in good:
                    self.assertFalse(self.check(schedule, {**good, waits: states}, fails))
                if waits not in fails:
                    self.assertFalse(self.check(schedule, good, {**fails, waits: [("begin",)]}))
            for waits in good:
                rest = {one: good[one] for one in good if one != waits}
                self.assertFalse(self.check(schedule, rest, {**fails, waits: [("begin",)]}))
            for waits in fails:
                rest = {one: fails[one] for one in fails if one != waits}
                self.assertFalse(self.check(schedule, {**good, waits: states}, rest))

    def test_right_ones_that_are_not_the_greatest(self):
        good, fails = self.told(NARROW)
        lesser = all_states(NARROW, lag=0)
        self.assertTrue(are_right_waits(NARROW, (0, 0)))
        self.assertFalse(self.check(NARROW, {**good, (0, 0): lesser}, fails))
        self.assertFalse(self.check(NARROW, {(0, 0): lesser}, fails))
        self.assertFalse(self.check(NARROW, {(0, 0): lesser}, {**fails, (0, 1): [("begin",)]}))

    def test_what_is_no_waits(self):
        for schedule in self.asked():
            good, fails = self.told(schedule)
            many = len(schedule.editions()) - 1
            for strange in ((0,) * (many + 1), (3,) * many + (3,), (-1,) + (0,) * many, None, 0, "0", ((),), (None,) * 9):
                self.assertFalse(Longest({**good, strange: []}, fails).shows(schedule))
                self.assertFalse(Longest(good, {**fails, strange: []}).shows(schedule))
        good, fails = self.told(NARROW)
        for strange in ((0, 3), (3, 0), (0,), (0, 1, 0), (0, -1)):
            self.assertFalse(Longest({strange: good[(0, 1)]}, fails).shows(NARROW))
            moved = {strange if waits == (2, 2) else waits: fails[waits] for waits in fails}
            self.assertFalse(Longest(good, moved).shows(NARROW))

    def test_booleans_are_no_numbers(self):
        good, fails = self.told(NARROW)
        for strange in ((0, True), (False, 1), (False, True)):
            self.assertFalse(Longest({strange: good[(0, 1)]}, fails).shows(NARROW))
        rest = {waits: fails[waits] for waits in fails if waits != (1, 1)}
        self.assertFalse(Longest(good, {**rest, (1, True): fails[(1, 1)]}).shows(NARROW))

    def test_states_changed(self):
        for schedule in self.asked():
            good, fails = self.told(schedule)
            for waits in good:
                for at in range(0, len(good[waits]), 5):
                    states = good[waits][:at] + good[waits][at + 1:]
                    self.assertFalse(self.check(schedule, {**good, waits: states}, fails))
                for states in ([], good[waits] + [None], good[waits] + [(0,)]):
                    self.assertFalse(Longest({**good, waits: states}, fails).shows(schedule))
        good, fails = self.told(NARROW)
        for state in ((3, False, 0, ((),)), (3, False, None, ((0,),))):
            self.assertFalse(self.check(NARROW, {(0, 1): good[(0, 1)] + [state]}, fails))

    def test_weavings_changed(self):
        seen = set()
        for schedule in self.asked():
            good, fails = self.told(schedule)
            for waits in list(fails)[::3]:
                deeds = fails[waits]
                changed = [[], deeds[:-1], deeds[1:], deeds * 2, deeds + [("visit",)], None]
                changed += [fails[other] for other in list(fails)[::5]]
                for other in changed:
                    seen.add(self.check(schedule, good, {**fails, waits: other}))
                for strange in (("begin", 0), ("cut", 9), ("put", True, 0), (), None, "begin", Agreeable()):
                    other = deeds[:1] + [strange] + deeds[1:]
                    self.assertFalse(Longest(good, {**fails, waits: other}).shows(schedule))
        self.assertEqual(seen, {True, False})

    def test_a_weaving_of_longer_waits(self):
        """It is done by a server that had to wait."""
        good, fails = self.told(NARROW)
        self.assertTrue(self.check(NARROW, good, {**fails, (0, 2): fails[(0, 2)]}))
        self.assertFalse(self.check(NARROW, good, {**fails, (1, 0): fails[(0, 2)]}))
        self.assertFalse(self.check(NARROW, good, {**fails, (0, 2): fails[(1, 0)]}))

    def test_for_others(self):
        found = wait(LATE)
        for schedule in (NARROW, STILL, Schedule(2, ABSENT, LATE.steps), Schedule(1, WRITE, LATE.steps), GONE):
            self.assertFalse(self.check(schedule, found.good, found.fails))

    def test_the_current_attributes_tell(self):
        found = wait(LATE)
        found.fails[(2, 2, 2)].pop()
        self.assertFalse(found.shows(LATE))
        found.fails = wait(LATE).fails
        self.assertTrue(found.shows(LATE))
        found.good = {}
        self.assertFalse(found.shows(LATE))

    def test_shows_modifies_nothing(self):
        for schedule in self.asked():
            found = wait(schedule)
            found.shows(schedule)
            self.assertEqual(found, wait(schedule))


class Equality(unittest.TestCase):
    GOOD = {(0, 1): [(0, False, None, ((),))], (1, 0): []}
    FAILS = {(1, 1): [("begin",)], (2, 2): []}

    def test_the_dicts_are_copied_with_the_lists_in_them(self):
        good = {waits: list(states) for waits, states in self.GOOD.items()}
        fails = {waits: list(deeds) for waits, deeds in self.FAILS.items()}
        found = Longest(good, fails)
        good[(0, 1)].clear()
        fails[(1, 1)].append(None)
        good[()] = fails[()] = []
        self.assertEqual((found.good, found.fails), (self.GOOD, self.FAILS))

    def test_equal_if_both_are(self):
        turned = [dict(list(told.items())[::-1]) for told in (self.GOOD, self.FAILS)]
        self.assertTrue(Longest(self.GOOD, self.FAILS) == Longest(*turned))
        self.assertFalse(Longest(good=self.GOOD, fails=self.FAILS) != Longest(*turned))

    def test_not_equal_otherwise(self):
        one = Longest(self.GOOD, self.FAILS)
        for other in (
            Longest({}, self.FAILS), Longest(self.GOOD, {}), Longest({**self.GOOD, (1, 0): [None]}, self.FAILS),
            Longest(self.GOOD, {**self.FAILS, (2, 2): [None]}), Longest(self.FAILS, self.GOOD),
            Spared(self.GOOD, self.FAILS), Stayed(self.GOOD, self.FAILS), Right([]), Wrong([]), None, self.GOOD,
            (self.GOOD, self.FAILS), Agreeable(), LATE, Longest,
        ):
            self.assertFalse(one == other)
            self.assertTrue(one != other)


class WrongArguments(unittest.TestCase):
    def test_all_doors(self):
        for door in (wait, greatest_waits, Longest({}, {}).shows):
            check_door(self, door, [SHORT], [(0, NO_SCHEDULES, BadSchedule, None)])
            self.assertRaises(TypeError, door, SHORT, 1)
            self.assertRaises(TypeError, lambda: door(SHORT, lag=1))

    def test_a_call_that_is_refused_changes_nothing(self):
        found = wait(LATE)
        refused(self, lambda: found.shows(FIVE), TooLarge)
        self.assertEqual(found, wait(LATE))


if __name__ == "__main__":
    unittest.main()
