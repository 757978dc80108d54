"""Point 14: stragglers, and Stayed."""

import random
import unittest

from editionlag.errors import BadLag, BadSchedule, TooLarge
from editionlag.judging import Right, Wrong, is_right
from editionlag.leaving import Spared
from editionlag.schedules import Schedule
from editionlag.states import all_states
from editionlag.stragglers import Stayed, harmless, stay
from tests import model
from tests.test_judging import parts, some_schedules
from tests.wrong import HUGE, NO_LAGS, NO_SCHEDULES, SHORT, Agreeable, check_door, refused

LOOKING = ("missed", "stray")
ABSENT, DELETE, PUBLIC, WRITE = ("absent",), ("delete",), ("public",), ("write",)
TO_ABSENT, TO_DELETE, TO_PUBLIC, TO_WRITE = [("edition", word) for word in (ABSENT, DELETE, PUBLIC, WRITE)]
FILL, SWEEP = ("fill", 0), ("sweep", 0)
NARROW = Schedule(1, ABSENT, (TO_WRITE, FILL, TO_PUBLIC))
CAREFUL = Schedule(1, ABSENT, (TO_DELETE, TO_WRITE, TO_WRITE, FILL, TO_PUBLIC))
# With lag 0, 1000 states come about with the straggler 0, and less with the others.
THOUSAND = Schedule(3, ("absent", "write"), (
    ("edition", ("write", "absent")), ("sweep", 1), ("edition", ("write", "write")), ("edition", ("delete", "delete")),
    ("fill", 0), ("edition", ("absent", "write")),
))
# With lag 1, 1001 states come about with the straggler 0, and 584 with the others.
ONE_MORE = Schedule(3, ("absent", "delete"), (
    ("sweep", 0), ("edition", ("write", "write")), ("edition", ("public", "absent")), ("fill", 1), ("sweep", 0), ("fill", 1),
))


def many_editions(schedule):
    return len(schedule.editions())


def with_straggler(lag, number):
    """What the model takes in place of a lag."""
    return "straggler", lag, number


def is_harmless(schedule, lag, number):
    return model.is_right(*parts(schedule), with_straggler(lag, number))


def is_well_told(schedule, lag, good, fails):
    """Whether both dicts are as in a Stayed, in any order, by the model."""
    told = [number for number in range(many_editions(schedule)) if is_harmless(schedule, lag, number)]
    rest = [number for number in range(many_editions(schedule)) if number not in told]
    if sorted(good) != told or sorted(fails) != rest:
        return False
    for number in told:
        if not model.closed(*parts(schedule), with_straggler(lag, number), good[number], LOOKING):
            return False
    return all(
        fails[number] is not None
        and model.weaving(*parts(schedule), with_straggler(lag, number), fails[number], LOOKING) for number in rest
    )


class Stays(unittest.TestCase):
    def check(self, schedule, lag):
        found = stay(schedule, lag=lag)
        self.assertIs(found.__class__, Stayed)
        self.assertTrue(is_well_told(schedule, lag, found.good, found.fails))
        self.assertTrue(found.shows(schedule, lag=lag))
        self.assertEqual(list(found.good), sorted(found.good))
        self.assertEqual(list(found.fails), sorted(found.fails))
        self.assertEqual(harmless(schedule, lag=lag), list(found.good))
        return found

    def test_by_hand(self):
        self.assertEqual([harmless(NARROW, lag=lag) for lag in (0, 1, 4)], [[1, 2], [], []])
        self.assertEqual([harmless(CAREFUL, lag=lag) for lag in (0, 1, 2)], [[2, 3, 4], [2, 3, 4], []])
        # The last one goes by what all go by in the end.
        self.assertEqual(harmless(Schedule(1, PUBLIC, ()), lag=0), [0])
        self.assertEqual(harmless(Schedule(1, ABSENT, (TO_PUBLIC,)), lag=0), [])
        self.assertEqual(harmless(Schedule(1, PUBLIC, (TO_WRITE, TO_ABSENT)), lag=0), [1, 2])

    def test_a_straggler_that_looks_by_its_own_edition(self):
        """The index is public in the edition of the straggler alone, long after the others have left it."""
        gone = Schedule(1, PUBLIC, (TO_WRITE, TO_WRITE, TO_WRITE, TO_ABSENT))
        self.assertEqual([harmless(gone, lag=lag) for lag in (0, 1)], [[1, 2, 3, 4], [1, 2, 3, 4]])
        found = self.check(gone, 0)
        self.assertEqual(list(found.fails), [0])
        self.assertTrue(model.weaving(*parts(gone), with_straggler(0, 0), found.fails[0], LOOKING))
        self.assertFalse(Wrong(found.fails[0]).shows(gone, "missed", lag=0))

    def test_before_its_edition_is_put_out(self):
        """A straggler is none until there is its edition: nothing is wrong before, and it is with it."""
        late = Schedule(1, WRITE, (FILL, TO_PUBLIC, TO_ABSENT, TO_ABSENT))
        found = self.check(late, 0)
        self.assertEqual((list(found.good), list(found.fails)), ([0, 2, 3], [1]))
        self.assertEqual(found.fails[1].count(("begin",)), 3)
        deeds = [("begin",), ("visit",), ("begin",), ("begin",), ("put", 2, 0)]
        self.assertTrue(Stayed(found.good, {1: deeds}).shows(late, lag=0))
        early = [("put", 1, 0), ("cut", 0)] + deeds
        self.assertFalse(Stayed(found.good, {1: early}).shows(late, lag=0))
        there = deeds[:3] + [("put", 1, 0), ("cut", 1)] + deeds[3:]
        self.assertTrue(Stayed(found.good, {1: there}).shows(late, lag=0))

    def test_what_is_stray_alone(self):
        """The fill makes good what is missed, and not what is stray."""
        stray = Schedule(1, WRITE, (TO_ABSENT, TO_WRITE, FILL, TO_PUBLIC))
        self.assertEqual(model.soonest(*parts(stray), with_straggler(0, 3), "missed"), None)
        found = self.check(stray, 0)
        self.assertEqual((found.good, list(found.fails)), ({}, [0, 1, 2, 3]))
        rest = {number: found.fails[number] for number in (0, 1, 2)}
        self.assertFalse(Stayed({3: all_states(stray, lag=0)}, rest).shows(stray, lag=0))

    def test_first_and_last_with_lags(self):
        for schedule in (NARROW, CAREFUL, Schedule(2, PUBLIC, (TO_WRITE, TO_PUBLIC)), SHORT):
            for lag in (0, 4):
                found = self.check(schedule, lag)
                last = many_editions(schedule) - 1
                # Who lags behind by nothing but the last edition is no harm if nobody is.
                self.assertEqual(last in found.good, is_right(schedule, lag=lag))
                if lag == 4:
                    self.assertEqual(0 in found.good, is_right(schedule, lag=4))

    def test_against_the_model(self):
        seen = set()
        for at, schedule in enumerate(some_schedules(90)):
            found = self.check(schedule, (0, 1, 4, 2, 3)[at % 5])
            seen.add((len(found.good) > 0, len(found.fails) > 0, at % 5))
        self.assertGreater(len(seen), 10)

    def test_the_default_lag_is_1(self):
        self.assertEqual(stay(CAREFUL), stay(CAREFUL, lag=1))
        self.assertEqual(harmless(NARROW), [])
        self.assertTrue(stay(NARROW).shows(NARROW))
        self.assertFalse(stay(NARROW, lag=0).shows(NARROW))

    def test_what_is_returned_is_new(self):
        found = stay(CAREFUL)
        for told in (found.good, found.fails):
            for number in told:
                told[number].clear()
        harmless(CAREFUL).clear()
        self.assertTrue(stay(CAREFUL).shows(CAREFUL))
        self.assertFalse(found.shows(CAREFUL))


class Large(unittest.TestCase):
    def test_a_thousand_with_a_straggler_and_one_more(self):
        self.assertEqual(len(model.deeds_to(*parts(THOUSAND), with_straggler(0, 0))), 1000)
        found = stay(THOUSAND, lag=0)
        self.assertTrue(found.shows(THOUSAND, lag=0))
        self.assertEqual(harmless(THOUSAND, lag=0), list(found.good))
        self.assertEqual(len(model.deeds_to(*parts(ONE_MORE), with_straggler(1, 0))), 1001)
        self.assertEqual(len(all_states(ONE_MORE)), 584)
        refused(self, lambda: stay(ONE_MORE), TooLarge)
        refused(self, lambda: harmless(ONE_MORE), TooLarge)
        refused(self, lambda: stay(HUGE), TooLarge)

    def test_the_other_errors_first(self):
        for door in (stay, harmless):
            refused(self, lambda: door(ONE_MORE, lag=5), BadLag)

    def test_shows_does_not_ask(self):
        self.assertFalse(Stayed({}, {}).shows(HUGE))
        states = all_states(ONE_MORE)
        numbers = range(many_editions(ONE_MORE))
        self.assertFalse(Stayed({number: states for number in numbers}, {}).shows(ONE_MORE))
        self.assertFalse(Stayed({}, {number: [] for number in numbers}).shows(ONE_MORE))
        fails = {}
        for number in numbers:
            found = model.deeds_to(*parts(Schedule(1, ONE_MORE.first, ONE_MORE.steps)), with_straggler(1, number))
            self.assertTrue(found)
            fails[number] = [("begin",), ("visit",), ("begin",), ("begin",), ("put", 0, 0)]
            if number:
                fails[number] = [("put", 0, 0), ("begin",), ("visit",), ("begin",), ("begin",)]
        self.assertTrue(Stayed({}, fails).shows(ONE_MORE))


class Shows(unittest.TestCase):
    ASKED = ((NARROW, 0), (NARROW, 1), (CAREFUL, 1), (SHORT, 4), (Schedule(2, PUBLIC, (TO_WRITE, TO_ABSENT)), 0))

    def check(self, asked, good, fails):
        found = Stayed(good, fails).shows(asked[0], lag=asked[1])
        self.assertIs(found, is_well_told(*asked, good, fails))
        return found

    def told(self, asked):
        found = stay(asked[0], lag=asked[1])
        return found.good, found.fails

    def test_another_order(self):
        for asked in self.ASKED:
            good, fails = self.told(asked)
            good = {number: good[number][::-1] + good[number][:2] for number in list(good)[::-1]}
            fails = {number: fails[number] for number in list(fails)[::-1]}
            self.assertTrue(self.check(asked, good, fails))

    def test_a_number_left_out(self):
        for asked in self.ASKED:
            good, fails = self.told(asked)
            for number in good:
                self.assertFalse(self.check(asked, {one: good[one] for one in good if one != number}, fails))
            for number in fails:
                self.assertFalse(self.check(asked, good, {one: fails[one] for one in fails if one != number}))
            self.assertFalse(self.check(asked, {}, {}))

    def test_a_number_put_in_or_moved(self):
        for asked in self.ASKED:
            good, fails = self.told(asked)
            states = all_states(asked[0], lag=4)
            for number in good:
                for deeds in ([], [("begin",)], None):
                    self.assertFalse(self.check(asked, good, {**fails, number: deeds}))
                    rest = {one: good[one] for one in good if one != number}
                    self.assertFalse(self.check(asked, rest, {**fails, number: deeds}))
            for number in fails:
                self.assertFalse(self.check(asked, {**good, number: states}, fails))
                rest = {one: fails[one] for one in fails if one != number}
                self.assertFalse(self.check(asked, {**good, number: states}, rest))

    def test_what_is_no_number_of_an_edition(self):
        for asked in self.ASKED:
            good, fails = self.told(asked)
            for strange in (many_editions(asked[0]), 99, -1, None, "0", (0,), ()):
                self.assertFalse(Stayed({**good, strange: []}, fails).shows(asked[0], lag=asked[1]))
                self.assertFalse(Stayed(good, {**fails, strange: []}).shows(asked[0], lag=asked[1]))
                for told, other in ((good, fails), (fails, good)):
                    for number in told:
                        moved = {strange if one == number else one: told[one] for one in told}
                        pair = (moved, other) if told is good else (other, moved)
                        self.assertFalse(Stayed(*pair).shows(asked[0], lag=asked[1]))

    def test_booleans_are_no_numbers(self):
        good, fails = self.told((NARROW, 0))
        self.assertFalse(Stayed({True: good[1], 2: good[2]}, fails).shows(NARROW, lag=0))
        self.assertFalse(Stayed(good, {False: fails[0]}).shows(NARROW, lag=0))

    def test_states_changed(self):
        for asked in self.ASKED:
            good, fails = self.told(asked)
            for number in good:
                for at in range(0, len(good[number]), 5):
                    states = good[number][:at] + good[number][at + 1:]
                    self.assertFalse(self.check(asked, {**good, number: states}, fails))
                for states in ([], good[number] + [None], good[number] + [(0,)]):
                    self.assertFalse(Stayed({**good, number: states}, fails).shows(asked[0], lag=asked[1]))
        good, fails = self.told((NARROW, 0))
        broken = good[2] + [(3, False, 0, ((),))]
        self.assertFalse(self.check((NARROW, 0), {1: good[1], 2: broken}, fails))

    def test_weavings_changed(self):
        seen = set()
        for asked in self.ASKED:
            good, fails = self.told(asked)
            for number in fails:
                deeds = fails[number]
                changed = [[], deeds[:-1], deeds[1:], deeds * 2, deeds + [("visit",)], None]
                changed += [deeds[:at] + [("begin",)] + deeds[at:] for at in range(len(deeds))]
                for other in changed:
                    seen.add(self.check(asked, good, {**fails, number: other}))
                for strange in (("begin", 0), ("cut", 9), ("put", True, 0), (), None, "begin", Agreeable()):
                    other = deeds[:1] + [strange] + deeds[1:]
                    self.assertFalse(Stayed(good, {**fails, number: other}).shows(asked[0], lag=asked[1]))
        self.assertIn(False, seen)

    def test_a_weaving_of_another_straggler(self):
        """It is done by a server that is not there."""
        gone = Schedule(1, PUBLIC, (TO_PUBLIC, TO_WRITE, TO_WRITE, TO_ABSENT))
        good, fails = self.told((gone, 0))
        self.assertEqual(list(fails), [0, 1])
        self.assertTrue(self.check((gone, 0), good, fails))
        by_first = [("begin",)] * 4 + [("put", 0, 0), ("cut", 4)]
        by_next = [("begin",)] * 4 + [("put", 1, 0), ("cut", 4)]
        self.assertTrue(self.check((gone, 0), good, {0: by_first, 1: by_next}))
        self.assertFalse(self.check((gone, 0), good, {0: by_next, 1: by_next}))
        self.assertFalse(self.check((gone, 0), good, {0: by_first, 1: by_first}))

    def test_for_others(self):
        found = stay(CAREFUL)
        for schedule, lag in (
            (CAREFUL, 2), (NARROW, 1), (Schedule(2, ABSENT, CAREFUL.steps), 1), (Schedule(1, WRITE, CAREFUL.steps), 1),
        ):
            self.assertFalse(self.check((schedule, lag), found.good, found.fails))
        self.assertFalse(found.shows(HUGE))
        # The same are harmless with lag 0.
        self.check((CAREFUL, 0), found.good, found.fails)

    def test_the_states_of_another_straggler(self):
        seen = set()
        for schedule in some_schedules(40):
            good, fails = self.told((schedule, 0))
            for number in good:
                for other in good:
                    seen.add(self.check((schedule, 0), {**good, number: good[other]}, fails))
        self.assertEqual(seen, {True, False})

    def test_the_current_attributes_tell(self):
        found = stay(CAREFUL)
        found.fails[0].pop()
        self.assertFalse(found.shows(CAREFUL))
        found.fails = stay(CAREFUL).fails
        self.assertTrue(found.shows(CAREFUL))
        found.good = {}
        self.assertFalse(found.shows(CAREFUL))

    def test_shows_modifies_nothing(self):
        for schedule, lag in self.ASKED:
            found = stay(schedule, lag=lag)
            found.shows(schedule, lag=lag)
            self.assertEqual(found, stay(schedule, lag=lag))


class Equality(unittest.TestCase):
    GOOD = {0: [(0, False, None, ((),))], 2: []}
    FAILS = {1: [("begin",)], 3: []}

    def test_the_dicts_are_copied_with_the_lists_in_them(self):
        good = {number: list(states) for number, states in self.GOOD.items()}
        fails = {number: list(deeds) for number, deeds in self.FAILS.items()}
        found = Stayed(good, fails)
        good[0].clear()
        fails[1].append(None)
        good[9] = fails[9] = []
        self.assertEqual((found.good, found.fails), (self.GOOD, self.FAILS))

    def test_equal_if_both_are(self):
        turned = [dict(list(told.items())[::-1]) for told in (self.GOOD, self.FAILS)]
        self.assertTrue(Stayed(self.GOOD, self.FAILS) == Stayed(*turned))
        self.assertFalse(Stayed(good=self.GOOD, fails=self.FAILS) != Stayed(*turned))

    def test_not_equal_otherwise(self):
        one = Stayed(self.GOOD, self.FAILS)
        for other in (
            Stayed({}, self.FAILS), Stayed(self.GOOD, {}), Stayed({**self.GOOD, 0: []}, self.FAILS),
            Stayed(self.GOOD, {**self.FAILS, 3: [None]}), Stayed(self.FAILS, self.GOOD), Spared(self.GOOD, self.FAILS),
            Right([]), Wrong([]), None, self.GOOD, (self.GOOD, self.FAILS), Agreeable(), CAREFUL, Stayed,
        ):
            self.assertFalse(one == other)
            self.assertTrue(one != other)


class WrongArguments(unittest.TestCase):
    def test_all_doors(self):
        wrongs = [(0, NO_SCHEDULES, BadSchedule, None), ("lag", NO_LAGS, BadLag)]
        for door in (stay, harmless, Stayed({}, {}).shows):
            check_door(self, door, [CAREFUL], wrongs, "lag")
            refused(self, lambda: door(None, lag=None), BadSchedule, None)
            self.assertRaises(TypeError, door, CAREFUL, 1)

    def test_a_call_that_is_refused_changes_nothing(self):
        found = stay(CAREFUL)
        refused(self, lambda: found.shows(CAREFUL, lag=5), BadLag)
        self.assertEqual(found, stay(CAREFUL))


if __name__ == "__main__":
    unittest.main()
