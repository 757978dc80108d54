"""Point 16: repairs, Repair and NoRepair."""

import random
import unittest

from editionlag.errors import BadLag, BadRepair, BadSchedule, TooLarge
from editionlag.judging import Right, Wrong, is_right
from editionlag.repairs import NoRepair, Repair, least_repair, repair, repaired
from editionlag.schedules import Schedule
from editionlag.states import all_states
from editionlag.weaving import NoPlan, Shortest
from tests import model
from tests.test_judging import parts
from tests.wrong import HUGE, NO_LAGS, NO_SCHEDULES, SHORT, STRANGE, Agreeable, check_door, refused

LOOKING = ("missed", "stray")
WORDS = ("absent", "delete", "public", "write")
ABSENT, DELETE, PUBLIC, WRITE = ("absent",), ("delete",), ("public",), ("write",)
TO_ABSENT, TO_DELETE, TO_PUBLIC, TO_WRITE = [("edition", word) for word in (ABSENT, DELETE, PUBLIC, WRITE)]
FILL, SWEEP = ("fill", 0), ("sweep", 0)
BARE = Schedule(1, ABSENT, (TO_PUBLIC,))
TWICE = Schedule(1, ABSENT, (TO_PUBLIC, TO_PUBLIC))
STILL = Schedule(1, WRITE, ())
# Entries are stray behind its sweep that comes too soon, and rows are missed: both steps are needed, in their order.
STALE = Schedule(1, WRITE, (TO_ABSENT, TO_PUBLIC))
# The index 1 alone has to be filled.
SECOND = Schedule(1, ("write", "absent"), (("edition", ("public", "public")),))
BOTH = Schedule(1, ("absent", "absent"), (("edition", ("public", "public")),))
TEN = Schedule(1, PUBLIC, (TO_PUBLIC,) * 10)
ELEVEN, TWELVE = TEN.with_steps((TO_PUBLIC,) * 11), TEN.with_steps((TO_PUBLIC,) * 12)
EMPTY = ("absent", "absent")
# More than 1000 states come about: for repairs behind the first one that is enough alone,
LATE = Schedule(3, EMPTY, (("edition", ("absent", "write")), ("fill", 0), ("sweep", 1)))
LATER = Schedule(3, ("public", "public"), (
    ("edition", ("delete", "absent")), ("edition", ("absent", "delete")), ("edition", ("write", "absent")),
    ("edition", ("public", "absent")), ("edition", ("public", "write")), ("sweep", 0), ("fill", 1),
))
# for the first one, which would be enough,
AT_ONCE = Schedule(3, EMPTY, (("edition", ("write", "write")), ("fill", 1), ("fill", 0), ("fill", 0), ("fill", 1)))
# for shorter ones ahead of the first one that is enough,
EARLY = Schedule(3, EMPTY, (
    ("edition", ("public", "write")), ("edition", ("public", "absent")), ("edition", ("public", "delete")),
))
# for one as long ahead of it.
EARLY_TWIN = Schedule(3, ("write", "absent"), (
    ("edition", ("absent", "public")), ("edition", ("write", "absent")), ("edition", ("public", "absent")), ("sweep", 0),
    ("edition", ("absent", "public")), ("edition", ("delete", "public")), ("sweep", 1),
))


def all_repairs(schedule):
    return model.repairs(len(schedule.first))


def parts_with(schedule, told):
    return schedule.width, schedule.first, schedule.steps + told


def is_enough(schedule, told, lag):
    return model.is_enough(*parts_with(schedule, told), lag)


def do_fail(schedule, lag, fails, expected):
    """Whether a dict has exactly the expected repairs, in any order, each with a weaving."""
    if sorted(fails) != sorted(expected):
        return False
    return all(
        fails[told] is not None and model.weaving(*parts_with(schedule, told), lag, fails[told], LOOKING, True)
        for told in expected
    )


def is_well_told(schedule, lag, told, states, fails):
    """Whether all is as in a Repair, by the model."""
    if told not in all_repairs(schedule):
        return False
    shorter = [other for other in all_repairs(schedule) if len(other) < len(told)]
    return model.closed(*parts_with(schedule, told), lag, states, LOOKING, True) and do_fail(schedule, lag, fails, shorter)


def some_bad_schedules(many):
    """Schedules that end with a public index, always the same ones."""
    chance = random.Random(16)
    for _ in range(many):
        indexes = chance.choice((1, 1, 2))
        steps = []
        for _ in range(chance.randrange(4)):
            edition = ("edition", tuple(chance.choice(WORDS) for _ in range(indexes)))
            steps.append(chance.choice((edition, ("fill", chance.randrange(indexes)), ("sweep", chance.randrange(indexes)))))
        last = tuple(chance.choice(("public", "public", "write")) for _ in range(indexes))
        steps += [("edition", last)] * chance.choice((1, 2))
        yield Schedule(chance.choice((1, 1, 2)), tuple(chance.choice(WORDS) for _ in range(indexes)), tuple(steps))


class Repaired(unittest.TestCase):
    def test_all_repairs(self):
        for schedule in (BARE, STILL, SECOND, SHORT, TEN):
            for told in all_repairs(schedule):
                found = repaired(schedule, told)
                self.assertEqual(found, Schedule(*parts_with(schedule, told)))
        self.assertEqual(repaired(BARE, ()), BARE)
        self.assertEqual(len(BARE), 1)
        self.assertEqual((len(all_repairs(BARE)), len(all_repairs(BOTH))), (7, 21))
        self.assertEqual(repaired(schedule=BARE, repair=(FILL,)).steps, (TO_PUBLIC, FILL))

    def test_more_than_twelve_steps(self):
        self.assertEqual(len(repaired(TEN, (FILL, SWEEP))), 12)
        self.assertEqual(len(repaired(ELEVEN, (FILL,))), 12)
        refused(self, lambda: repaired(ELEVEN, (FILL, SWEEP)), BadRepair)
        self.assertEqual(repaired(TWELVE, ()), TWELVE)
        refused(self, lambda: repaired(TWELVE, (SWEEP,)), BadRepair)
        refused(self, lambda: repaired(TWELVE, (FILL, FILL)), BadRepair)

    def test_the_number_of_states_is_not_asked_for(self):
        self.assertEqual(len(repaired(AT_ONCE, (FILL,))), 6)
        self.assertEqual(repaired(HUGE, ()), HUGE)

    def test_wrong_arguments(self):
        no_repairs = STRANGE[:16] + (
            None, 0, "fill", ["fill", 0], FILL, [FILL], (FILL, SWEEP, FILL), (FILL,) * 3, (TO_PUBLIC,), (FILL, TO_WRITE),
            (("fill", 1),), (("sweep", -1),), (("fill", False),), (("sweep", True),), (("fill", None),), (("fill", "0"),),
            (("Fill", 0),), (("fill",),), (("fill", 0, 0),), (["fill", 0],), (FILL, ["sweep", 0]), (None,), (FILL, None),
            (Agreeable(),), (FILL, Agreeable()), (("fill", Agreeable()),), ((Agreeable(), 0),), (("begin",),), {FILL: 0},
            (("visit", 0),), ((0, "fill"),), (("fill", (0,)),), (("edition", 0),), (("edition", WRITE),),
        )
        check_door(self, repaired, [BARE, (FILL,)], [(0, NO_SCHEDULES, BadSchedule, None), (1, no_repairs, BadRepair)])
        refused(self, lambda: repaired(TWELVE, None), BadRepair)
        refused(self, lambda: repaired(None, None), BadSchedule, None)
        self.assertEqual(len(repaired(SECOND, (("fill", 1),))), 2)
        refused(self, lambda: repaired(SECOND, (("fill", 2),)), BadRepair)
        refused(self, lambda: repaired(SECOND, (("fill", True),)), BadRepair)


class Repairs(unittest.TestCase):
    def check(self, schedule, lag):
        found = repair(schedule, lag=lag)
        self.assertTrue(found.shows(schedule, lag=lag))
        told = all_repairs(schedule)
        enough = [one for one in told if is_enough(schedule, one, lag)]
        if not enough:
            self.assertIs(found.__class__, NoRepair)
            self.assertIsNone(least_repair(schedule, lag=lag))
            expected = told
        else:
            self.assertIs(found.__class__, Repair)
            self.assertIn(found.repair, enough)
            self.assertEqual(len(found.repair), len(enough[0]))
            self.assertEqual(least_repair(schedule, lag=lag), len(enough[0]))
            self.assertTrue(is_well_told(schedule, lag, found.repair, found.states, found.fails))
            expected = [one for one in told if len(one) < len(enough[0])]
        self.assertEqual(list(found.fails), expected)
        self.assertTrue(do_fail(schedule, lag, found.fails, expected))
        return found

    def test_by_hand(self):
        self.assertEqual(self.check(STILL, 1).repair, ())
        self.assertEqual(self.check(BARE, 0).repair, (FILL,))
        self.assertEqual(list(self.check(BARE, 1).fails), model.repairs(1))
        self.assertEqual([least_repair(TWICE, lag=lag) for lag in (0, 1, 2)], [1, 2, None])
        self.assertEqual(self.check(TWICE, 1).repair, (SWEEP, FILL))
        self.assertEqual(self.check(STALE, 0).repair, (SWEEP, FILL))

    def test_either_index(self):
        self.assertEqual(self.check(SECOND, 0).repair, (("fill", 1),))
        found = self.check(BOTH, 0)
        self.assertEqual(found.repair, (("fill", 0), ("fill", 1)))
        self.assertEqual(list(found.fails), [(), (("fill", 0),), (("fill", 1),), (("sweep", 0),), (("sweep", 1),)])
        self.assertEqual(len(self.check(BOTH, 1).fails), 21)

    def test_what_is_wrong_ahead_does_not_count(self):
        """Rows are missed while the fill is due, and not in the end."""
        filled = repaired(BARE, (FILL,))
        self.assertFalse(is_right(filled, lag=0))
        self.assertEqual(self.check(filled, 0).repair, ())
        self.assertEqual(self.check(Schedule(1, PUBLIC, (SWEEP, TO_WRITE)), 0).repair, ())
        self.assertEqual(least_repair(Schedule(1, PUBLIC, (SWEEP,)), lag=0), 1)

    def test_what_is_left_does_not_count(self):
        gone = Schedule(1, PUBLIC, (TO_ABSENT,))
        self.assertEqual(self.check(gone, 0).repair, ())

    def test_against_the_model(self):
        seen = set()
        for at, schedule in enumerate(some_bad_schedules(70)):
            found = self.check(schedule, (0, 1, 2, 0, 4)[at % 5])
            seen.add(len(found.repair) if found.__class__ is Repair else None)
        self.assertEqual(seen, {None, 0, 1, 2})

    def test_ten_steps_and_more(self):
        for lag in (0, 1, 4):
            self.assertEqual(self.check(TEN, lag).repair, ())
        for schedule in (ELEVEN, TWELVE):
            for door in (repair, least_repair, Repair((), [], {}).shows, NoRepair({}).shows):
                refused(self, lambda: door(schedule), TooLarge)
                refused(self, lambda: door(schedule, lag=0), TooLarge)
        swept = TEN.with_steps((TO_PUBLIC,) * 9 + (SWEEP,))
        self.assertEqual(self.check(swept, 1).repair, (FILL,))

    def test_the_default_lag_is_1(self):
        for schedule in (BARE, TWICE):
            self.assertEqual(repair(schedule), repair(schedule, lag=1))
            self.assertEqual(least_repair(schedule), least_repair(schedule, lag=1))
            self.assertTrue(repair(schedule).shows(schedule))
            self.assertFalse(repair(schedule, lag=0).shows(schedule))

    def test_what_is_returned_is_new(self):
        found = repair(TWICE)
        found.states.clear()
        for told in found.fails:
            found.fails[told].clear()
        self.check(TWICE, 1)
        none = repair(BARE)
        none.fails.clear()
        self.check(BARE, 1)


class Large(unittest.TestCase):
    def large(self, schedule, lag):
        """The places, among the repairs, of those for which it is due, and of the first one that is enough."""
        much = []
        enough = None
        for at, told in enumerate(all_repairs(schedule)):
            try:
                all_states(repaired(schedule, told), lag=lag)
            except TooLarge:
                much.append(at)
            else:
                if enough is None and is_enough(schedule, told, lag):
                    enough = at
        return much, enough

    def test_behind_the_first_one_that_is_enough(self):
        for schedule, lag, first in ((LATE, 2, 0), (LATER, 2, 1)):
            much, enough = self.large(schedule, lag)
            self.assertEqual(enough, first)
            self.assertGreater(min(much), first)
            found = repair(schedule, lag=lag)
            self.assertTrue(found.shows(schedule, lag=lag))
            self.assertEqual(found.repair, all_repairs(schedule)[first])
            self.assertEqual(least_repair(schedule, lag=lag), len(found.repair))

    def test_at_the_first_one_that_is_enough(self):
        refused(self, lambda: repair(AT_ONCE, lag=2), TooLarge)
        refused(self, lambda: least_repair(AT_ONCE, lag=2), TooLarge)
        self.assertTrue(is_enough(AT_ONCE, (), 2))

    def test_ahead_of_the_first_one_that_is_enough(self):
        for schedule, lag, first, enough in ((EARLY, 2, 2, 13), (EARLY_TWIN, 1, 1, 2)):
            much, found = self.large(schedule, lag)
            self.assertEqual((much[0], found), (first, enough))
            refused(self, lambda: repair(schedule, lag=lag), TooLarge)
            refused(self, lambda: least_repair(schedule, lag=lag), TooLarge)
        lengths = [len(told) for told in all_repairs(EARLY_TWIN)]
        self.assertEqual((lengths[1], lengths[2]), (1, 1))

    def test_the_other_errors_first(self):
        for door in (repair, least_repair, Repair((), [], {}).shows, NoRepair({}).shows):
            refused(self, lambda: door(TWELVE, lag=5), BadLag)
        for door in (repair, least_repair):
            refused(self, lambda: door(AT_ONCE, lag=-1), BadLag)

    def test_shows_asks_for_the_steps_alone(self):
        self.assertFalse(Repair((), [], {}).shows(AT_ONCE, lag=2))
        self.assertFalse(NoRepair({}).shows(AT_ONCE, lag=2))
        self.assertFalse(NoRepair({told: [] for told in all_repairs(EARLY)}).shows(EARLY, lag=2))
        # The repair that is enough, for which no more states come about.
        enough = all_repairs(EARLY)[13]
        states = all_states(repaired(EARLY, enough), lag=2)
        self.assertIs(Repair(enough, states, {}).shows(EARLY, lag=2), False)
        # Those that come about for AT_ONCE, more than 1000, by the model.
        told = [model.as_told(state) for state in model.deeds_to(*parts(AT_ONCE), 2)]
        self.assertGreater(len(told), 1000)
        self.assertTrue(Repair((), told, {}).shows(AT_ONCE, lag=2))


class Shows(unittest.TestCase):
    ASKED = ((STILL, 1), (BARE, 0), (TWICE, 1), (STALE, 0), (SECOND, 0), (BOTH, 0), (Schedule(2, ABSENT, (TO_PUBLIC,)), 0))
    NOTHING = ((BARE, 1), (TWICE, 4), (BOTH, 1))

    def check(self, asked, told, states, fails):
        found = Repair(told, states, fails).shows(asked[0], lag=asked[1])
        self.assertIs(found, is_well_told(*asked, told, states, fails))
        return found

    def check_none(self, asked, fails):
        found = NoRepair(fails).shows(asked[0], lag=asked[1])
        self.assertIs(found, do_fail(*asked, fails, all_repairs(asked[0])))
        return found

    def test_another_order(self):
        for asked in self.ASKED:
            found = repair(asked[0], lag=asked[1])
            fails = {told: found.fails[told] for told in list(found.fails)[::-1]}
            self.assertTrue(self.check(asked, found.repair, found.states[::-1] + found.states[:2], fails))
        for asked in self.NOTHING:
            fails = repair(asked[0], lag=asked[1]).fails
            self.assertTrue(self.check_none(asked, {told: fails[told] for told in list(fails)[::-1]}))

    def test_each_repair_in_place_of_it(self):
        seen = set()
        for asked in self.ASKED:
            found = repair(asked[0], lag=asked[1])
            for told in all_repairs(asked[0]):
                states = all_states(repaired(asked[0], told), lag=asked[1])
                shown = self.check(asked, told, states, found.fails)
                if len(told) != len(found.repair):
                    self.assertFalse(shown)
                seen.add((shown, told == found.repair))
                if len(told) == len(found.repair):
                    self.check(asked, told, found.states, found.fails)
        self.assertLessEqual({(True, True), (False, False)}, seen)
        # Another one of its length that is enough is as good.
        other = (("fill", 1), ("fill", 0))
        states = all_states(repaired(BOTH, other), lag=0)
        self.assertTrue(self.check((BOTH, 0), other, states, repair(BOTH, lag=0).fails))

    def test_what_is_no_repair(self):
        for asked in self.ASKED[:4]:
            found = repair(asked[0], lag=asked[1])
            for told in STRANGE[:16] + (
                None, list(found.repair), (FILL,) * 3, (TO_PUBLIC,), (("fill", 2),), (("fill", False),), (None,), "fill",
                (("sweep", False), ("fill", False)), (SWEEP, ("fill", False)), (Agreeable(),), (("fill", 0, 0),),
            ):
                self.assertFalse(Repair(told, found.states, found.fails).shows(asked[0], lag=asked[1]))

    def test_states_changed(self):
        for asked in self.ASKED:
            found = repair(asked[0], lag=asked[1])
            for at in range(0, len(found.states), 1 + len(found.states) // 25):
                states = found.states[:at] + found.states[at + 1:]
                self.assertFalse(self.check(asked, found.repair, states, found.fails))
            for states in ([], found.states + [None], found.states + [(0,)]):
                self.assertFalse(Repair(found.repair, states, found.fails).shows(asked[0], lag=asked[1]))
        found = repair(BARE, lag=0)
        # What is wrong ahead, or while it is due, is no harm, but in the end it is.
        for state, expected in (
            ((1, False, 0, ((),)), True), ((2, True, 0, ((),)), True), ((2, False, 0, ((),)), False),
            ((2, False, None, ((0,),)), False),
        ):
            self.assertIs(self.check((BARE, 0), (FILL,), found.states + [state], found.fails), expected)

    def test_a_repair_left_out_or_put_in(self):
        for asked in self.ASKED:
            found = repair(asked[0], lag=asked[1])
            for told in found.fails:
                rest = {one: found.fails[one] for one in found.fails if one != told}
                self.assertFalse(self.check(asked, found.repair, found.states, rest))
            for told in all_repairs(asked[0]):
                if told not in found.fails:
                    for deeds in ([], [("begin",)], None):
                        self.assertFalse(self.check(asked, found.repair, found.states, {**found.fails, told: deeds}))
            for strange in ((FILL,) * 3, None, 0, "fill", (None,), (TO_PUBLIC,), ((),), (("fill", 9),), (("fill", None),)):
                fails = {**found.fails, strange: []}
                self.assertFalse(Repair(found.repair, found.states, fails).shows(asked[0], lag=asked[1]))
        for asked in self.NOTHING:
            fails = repair(asked[0], lag=asked[1]).fails
            for told in fails:
                rest = {one: fails[one] for one in fails if one != told}
                self.assertFalse(self.check_none(asked, rest))
                for strange in ((FILL,) * 3, None, 0, (None,), (("fill", 9),)):
                    self.assertFalse(NoRepair({**rest, strange: fails[told]}).shows(asked[0], lag=asked[1]))
            self.assertFalse(NoRepair({**fails, (FILL,) * 3: []}).shows(asked[0], lag=asked[1]))
            self.assertFalse(self.check_none(asked, {}))

    def test_booleans_are_no_indexes(self):
        fails = repair(BARE).fails
        for strange in ((("fill", False),), (("sweep", False),), (FILL, ("sweep", False))):
            rest = {told: fails[told] for told in fails if told != strange}
            self.assertEqual(len(rest) + 1, len(fails))
            self.assertFalse(NoRepair({**rest, strange: fails[strange]}).shows(BARE))
        fails = repair(BOTH, lag=1).fails
        strange = (("fill", True),)
        rest = {told: fails[told] for told in fails if told != strange}
        self.assertFalse(NoRepair({**rest, strange: fails[strange]}).shows(BOTH))

    def test_weavings_changed(self):
        seen = set()
        for asked in self.ASKED + self.NOTHING:
            found = repair(asked[0], lag=asked[1])
            fails = found.fails
            for told in list(fails)[::2]:
                deeds = fails[told]
                changed = [[], deeds[:-1], deeds[1:], deeds * 2, deeds + [("visit",)], None] + list(fails.values())[::3]
                for other in changed:
                    new = {**fails, told: other}
                    if found.__class__ is NoRepair:
                        seen.add(self.check_none(asked, new))
                    else:
                        seen.add(self.check(asked, found.repair, found.states, new))
                for strange in (("begin", 0), ("cut", 9), ("put", True, 0), (), None, "begin", Agreeable()):
                    new = {**fails, told: deeds[:1] + [strange] + deeds[1:]}
                    if found.__class__ is NoRepair:
                        self.assertFalse(NoRepair(new).shows(asked[0], lag=asked[1]))
                    else:
                        self.assertFalse(Repair(found.repair, found.states, new).shows(asked[0], lag=asked[1]))
        self.assertEqual(seen, {True, False})

    def test_a_weaving_that_ends_ahead_of_the_end(self):
        """It leads to a row that is missed, while the repair is due, or another step is to begin."""
        fails = repair(BARE).fails
        early = [("begin",), ("put", 0, 0)]
        self.assertTrue(Wrong(early).shows(BARE, "missed"))
        self.assertTrue(self.check_none((BARE, 1), {**fails, (): early}))
        for told in fails:
            if told:
                self.assertTrue(Wrong(early).shows(repaired(BARE, told), "missed"))
                self.assertFalse(self.check_none((BARE, 1), {**fails, told: early}))
                self.assertFalse(self.check_none((BARE, 1), {**fails, told: early + [("begin",)]}))
        self.assertTrue(self.check_none((BARE, 1), {**fails, (SWEEP,): early + [("begin",), ("visit",)]}))

    def test_none_where_one_is_enough_and_the_other_way_round(self):
        found = repair(TWICE)
        self.assertFalse(self.check_none((TWICE, 1), found.fails))
        none = repair(BARE).fails
        for told in none:
            shorter = {one: none[one] for one in none if len(one) < len(told)}
            states = all_states(repaired(BARE, told))
            self.assertFalse(self.check((BARE, 1), told, states, shorter))

    def test_for_others(self):
        found = repair(TWICE)
        for schedule, lag in (
            (TWICE, 0), (TWICE, 2), (BARE, 1), (STALE, 1), (Schedule(2, ABSENT, TWICE.steps), 1), (STILL, 1), (BOTH, 1),
        ):
            self.assertFalse(found.shows(schedule, lag=lag))

    def test_the_current_attributes_tell(self):
        found = repair(TWICE)
        found.repair = (FILL, SWEEP)
        self.assertFalse(found.shows(TWICE))
        found.repair = (SWEEP, FILL)
        self.assertTrue(found.shows(TWICE))
        found.fails[()].pop()
        self.assertFalse(found.shows(TWICE))
        found.fails = repair(TWICE).fails
        found.states.pop()
        self.assertFalse(found.shows(TWICE))
        none = repair(BARE)
        none.fails[(FILL,)] = []
        self.assertFalse(none.shows(BARE))

    def test_shows_modifies_nothing(self):
        for schedule, lag in self.ASKED + self.NOTHING:
            found = repair(schedule, lag=lag)
            found.shows(schedule, lag=lag)
            self.assertEqual(found, repair(schedule, lag=lag))


class Equality(unittest.TestCase):
    STATES = [(0, False, None, ((),))]
    FAILS = {(): [("begin",)], (FILL,): []}

    def test_what_is_handed_in_is_copied(self):
        states, fails = list(self.STATES), {told: list(deeds) for told, deeds in self.FAILS.items()}
        found, none = Repair((FILL,), states, fails), NoRepair(fails)
        states.clear()
        fails[()].clear()
        fails[(SWEEP,)] = []
        self.assertEqual((found.repair, found.states, found.fails), ((FILL,), self.STATES, self.FAILS))
        self.assertEqual(none.fails, self.FAILS)

    def test_equal_if_all_attributes_are(self):
        turned = dict(list(self.FAILS.items())[::-1])
        one = Repair((FILL,), self.STATES, self.FAILS)
        self.assertTrue(one == Repair(repair=(FILL,), states=self.STATES, fails=turned))
        self.assertFalse(one != Repair((FILL,), self.STATES, turned))
        self.assertTrue(NoRepair(self.FAILS) == NoRepair(fails=turned))
        self.assertFalse(NoRepair(self.FAILS) != NoRepair(turned))

    def test_not_equal_otherwise(self):
        one, none = Repair((FILL,), self.STATES, self.FAILS), NoRepair(self.FAILS)
        for other in (
            Repair((SWEEP,), self.STATES, self.FAILS), Repair((FILL,), [], self.FAILS), Repair((FILL,), self.STATES, {}),
            NoRepair({}), NoRepair({**self.FAILS, (): []}), Shortest((FILL,), self.STATES, self.FAILS),
            NoPlan(self.FAILS), Right(self.STATES), Wrong([]), None, self.FAILS, Agreeable(), BARE, NoRepair,
        ):
            for told in (one, none):
                self.assertFalse(told == other)
                self.assertTrue(told != other)
        self.assertFalse(one == none)
        self.assertTrue(none != one)


class WrongArguments(unittest.TestCase):
    def test_all_doors(self):
        wrongs = [(0, NO_SCHEDULES, BadSchedule, None), ("lag", NO_LAGS, BadLag)]
        for door in (repair, least_repair, Repair((), [], {}).shows, NoRepair({}).shows):
            check_door(self, door, [TWICE], wrongs, "lag")
            refused(self, lambda: door(None, lag=None), BadSchedule, None)
            self.assertRaises(TypeError, door, TWICE, 1)

    def test_a_call_that_is_refused_changes_nothing(self):
        found = repair(TWICE)
        refused(self, lambda: found.shows(TWICE, lag=5), BadLag)
        refused(self, lambda: found.shows(ELEVEN), TooLarge)
        self.assertEqual(found, repair(TWICE))


if __name__ == "__main__":
    unittest.main()
