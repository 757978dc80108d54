"""Point 10: two schedules woven, plans and their schedules, Shortest and NoPlan."""

import random
import unittest

from editionlag.errors import BadLag, BadPair, BadPlan, BadSchedule, TooLarge
from editionlag.judging import Right, Wrong, is_right
from editionlag.schedules import Schedule
from editionlag.states import all_states
from editionlag.weaving import NoPlan, Shortest, least_steps, plans, weave, woven_by
from tests import model
from tests.wrong import HUGE, NO_LAGS, NO_SCHEDULES, SHORT, STRANGE, Agreeable, check_door, refused

LOOKING = ("missed", "stray")
WORDS = ("absent", "delete", "public", "write")
ABSENT, DELETE, PUBLIC, WRITE = ("absent",), ("delete",), ("public",), ("write",)
TO_ABSENT, TO_DELETE, TO_PUBLIC, TO_WRITE = [("edition", (word,)) for word in WORDS]
FILL, SWEEP = ("fill", 0), ("sweep", 0)
NARROW = Schedule(1, ABSENT, (TO_WRITE, FILL, TO_PUBLIC))
FOUR = Schedule(1, ABSENT, (TO_DELETE, TO_WRITE, FILL, TO_PUBLIC))
STILL = Schedule(1, WRITE, ())
# Two that cannot be right however they are woven, and need many weavings to show it.
HASTY = Schedule(1, ABSENT, (TO_PUBLIC,))
EDITIONS = Schedule(1, ABSENT, (TO_DELETE, TO_WRITE, TO_PUBLIC, TO_PUBLIC))
# More than 1000 states come about for plans behind the first right one alone.
LATE = (Schedule(3, ABSENT, (TO_WRITE, SWEEP)), Schedule(3, WRITE, (TO_ABSENT, TO_WRITE)))
# The same, and plans are shorter than the first right one.
LATER = (
    Schedule(3, ABSENT, (FILL, SWEEP, TO_WRITE, TO_DELETE)), Schedule(3, PUBLIC, (TO_WRITE, TO_ABSENT, FILL)),
)
# For the first plan, which is right.
AT_ONCE = (Schedule(3, WRITE, (SWEEP, TO_ABSENT)), Schedule(3, ABSENT, (FILL, TO_ABSENT, FILL, FILL)))
# For plans ahead of the first right one, and not for this one.
EARLY = (Schedule(3, WRITE, (TO_ABSENT, SWEEP, FILL, SWEEP)), Schedule(3, PUBLIC, (TO_WRITE, TO_ABSENT)))
# All of these are as long as the first right one: those ahead of it, and those behind it.
EARLY_TWIN = (Schedule(3, PUBLIC, (TO_WRITE, FILL, TO_ABSENT, FILL)), Schedule(3, WRITE, (TO_ABSENT, TO_DELETE)))
LATE_TWIN = (Schedule(3, ABSENT, (TO_WRITE, TO_WRITE, SWEEP)), Schedule(3, ABSENT, (FILL, FILL)))
# The shortest plans are wrong, with the lag behind them, and longer ones right.
PATIENT = (
    (Schedule(1, ABSENT, (TO_ABSENT,)), Schedule(1, PUBLIC, (TO_WRITE, FILL, SWEEP)), 1),
    (Schedule(1, ABSENT, (TO_WRITE, TO_DELETE, TO_DELETE)), Schedule(1, PUBLIC, (TO_WRITE, TO_ABSENT)), 4),
)


def ways(one, other):
    return (one.first, one.steps), (other.first, other.steps)


def parts_of(one, other, plan):
    """The width, the first edition and the steps of the schedule of a plan, by the model."""
    return one.width, one.first + other.first, model.woven_steps(*ways(one, other), plan)


def is_right_plan(one, other, plan, lag):
    return model.is_right(*parts_of(one, other, plan), lag)


def are_wrongs(one, other, lag, wrongs, expected):
    """Whether a dict has exactly the expected plans, in any order, each with a weaving."""
    if sorted(wrongs) != sorted(expected):
        return False
    return all(model.weaving(*parts_of(one, other, plan), lag, wrongs[plan], LOOKING) for plan in expected)


def pairs(many):
    """Pairs of schedules of one index, always the same ones."""
    chance = random.Random(10)
    for _ in range(many):
        width = chance.choice((1, 1, 2))
        pair = []
        for _ in range(2):
            steps = []
            for _ in range(chance.randrange(4)):
                steps.append(chance.choice((("edition", (chance.choice(WORDS),)),) * 2 + (FILL, SWEEP)))
            pair.append(Schedule(width, (chance.choice(WORDS),), tuple(steps)))
        yield tuple(pair)


class Plans(unittest.TestCase):
    def test_by_hand(self):
        self.assertEqual(plans(STILL, STILL), [()])
        self.assertEqual(plans(HASTY, STILL), [("one",)])
        self.assertEqual(plans(STILL, HASTY), [("other",)])
        self.assertEqual(plans(HASTY, HASTY), [("both",), ("one", "other"), ("other", "one")])
        filled = Schedule(1, WRITE, (FILL,))
        self.assertEqual(plans(filled, filled), [("one", "other"), ("other", "one")])
        self.assertEqual(plans(filled, HASTY), [("one", "other"), ("other", "one")])
        self.assertEqual(plans(HASTY, Schedule(1, WRITE, (FILL, TO_PUBLIC))), [
            ("other", "both"), ("one", "other", "other"), ("other", "one", "other"), ("other", "other", "one"),
        ])

    def test_against_the_model(self):
        found = list(pairs(60)) + [(FOUR, FOUR), (EDITIONS, FOUR), (EDITIONS, EDITIONS)]
        for one, other in found:
            self.assertEqual(plans(one, other), model.plans(*ways(one, other)))
        self.assertEqual(len(plans(EDITIONS, EDITIONS)), 321)

    def test_the_list_is_new(self):
        plans(HASTY, HASTY).clear()
        self.assertEqual(len(plans(HASTY, HASTY)), 3)

    def test_wrong_arguments(self):
        for door in (plans, least_steps, weave, Shortest((), [], {}).shows, NoPlan({}).shows):
            keyword = None if door is plans else "lag"
            check_pairs(self, door, keyword)
            for one, other in not_woven():
                refused(self, lambda: door(one, other), BadPair)
                refused(self, lambda: door(other, one), BadPair)


def not_woven():
    """Pairs of schedules that cannot be woven, of which the first one can, and neither."""
    five = Schedule(1, ABSENT, (FILL,) * 5)
    two = Schedule(1, ("absent", "absent"), ())
    wide = Schedule(2, ABSENT, ())
    return (NARROW, five), (NARROW, two), (NARROW, wide), (two, two), (five, five), (HUGE, SHORT)


def check_pairs(case, door, keyword):
    """Gives a door schedules and lags that are wrong alone, and two at once."""
    rights = [NARROW, FOUR]
    pairs_wrong = [other for one, other in not_woven() if one is NARROW]
    wrongs = [(0, NO_SCHEDULES, BadSchedule, None), (1, NO_SCHEDULES, BadSchedule, None), (1, pairs_wrong, BadPair)]
    if keyword:
        wrongs.append((keyword, NO_LAGS, BadLag))
        case.assertRaises(TypeError, door, *rights, 1)
        refused(case, lambda: door(SHORT, NARROW, lag=5), BadPair)
    check_door(case, door, rights, wrongs, keyword)
    refused(case, lambda: door(None, SHORT), BadSchedule, None)


class WovenBy(unittest.TestCase):
    def test_by_hand(self):
        found = woven_by(NARROW, Schedule(1, WRITE, (SWEEP, TO_ABSENT)), ("other", "both", "one", "one"))
        self.assertEqual(found, Schedule(1, ("absent", "write"), (
            ("sweep", 1), ("edition", ("write", "absent")), ("fill", 0), ("edition", ("public", "absent")),
        )))
        found = woven_by(Schedule(3, WRITE, (SWEEP, TO_ABSENT)), Schedule(3, PUBLIC, (TO_DELETE, FILL)), (
            "other", "one", "one", "other",
        ))
        self.assertEqual(found, Schedule(3, ("write", "public"), (
            ("edition", ("write", "delete")), ("sweep", 0), ("edition", ("absent", "delete")), ("fill", 1),
        )))
        self.assertEqual(woven_by(STILL, STILL, ()), Schedule(1, ("write", "write"), ()))

    def test_against_the_model(self):
        for one, other in list(pairs(60)) + [(EDITIONS, FOUR)]:
            for plan in plans(one, other):
                self.assertEqual(woven_by(one, other, plan), Schedule(*parts_of(one, other, plan)))

    def test_wrong_arguments(self):
        no_plans = STRANGE + (
            None, 0, (), "one", ["one", "other"], ("one",), ("other",), ("both", "both"), ("one", "one"),
            ("both", "one"), ("one", "other", "one"), ("One", "other"), ("one", b"other"), (Agreeable(),), (None,),
            (Agreeable(), Agreeable()), ("one", True), (0, 1), (("one",), "other"), ("one other",), (("both",),),
        )
        wrongs = [
            (0, NO_SCHEDULES, BadSchedule, None), (1, NO_SCHEDULES, BadSchedule, None),
            (1, [other for one, other in not_woven() if one is NARROW], BadPair), (2, no_plans, BadPlan),
        ]
        check_door(self, woven_by, [HASTY, HASTY, ("one", "other")], wrongs)
        refused(self, lambda: woven_by(HASTY, Schedule(1, WRITE, (FILL,)), ("both",)), BadPlan)
        refused(self, lambda: woven_by(STILL, HASTY, ()), BadPlan)
        refused(self, lambda: woven_by(STILL, STILL, []), BadPlan)
        for one, other in not_woven():
            refused(self, lambda: woven_by(one, other, None), BadPair)


class Weaves(unittest.TestCase):
    def check(self, one, other, lag):
        """Asserts that the answer is as in the document, by the model."""
        found = weave(one, other, lag=lag)
        self.assertTrue(found.shows(one, other, lag=lag))
        told = model.plans(*ways(one, other))
        right = [plan for plan in told if is_right_plan(one, other, plan, lag)]
        if not right:
            self.assertIs(found.__class__, NoPlan)
            self.assertIsNone(least_steps(one, other, lag=lag))
            expected = told
        else:
            self.assertIs(found.__class__, Shortest)
            self.assertIn(found.plan, right)
            self.assertEqual(len(found.plan), len(right[0]))
            self.assertEqual(least_steps(one, other, lag=lag), len(right[0]))
            self.assertTrue(model.closed(*parts_of(one, other, found.plan), lag, found.states, LOOKING))
            expected = [plan for plan in told if len(plan) < len(right[0])]
        self.assertEqual(list(found.wrongs), expected)
        self.assertTrue(are_wrongs(one, other, lag, found.wrongs, expected))
        return found

    def test_by_hand(self):
        self.assertEqual(self.check(NARROW, NARROW, 0).plan, ("both", "one", "other", "both"))
        self.assertEqual(len(self.check(NARROW, NARROW, 1).wrongs), 36)
        self.assertEqual(self.check(STILL, STILL, 1).plan, ())
        self.assertEqual(self.check(STILL, STILL, 1).wrongs, {})
        self.assertEqual(list(self.check(HASTY, STILL, 1).wrongs), [("one",)])
        self.assertEqual(list(self.check(HASTY, HASTY, 1).wrongs), [("both",), ("one", "other"), ("other", "one")])

    def test_two_that_are_wrong_alone_wait_for_one_another(self):
        self.assertFalse(is_right(FOUR))
        found = weave(FOUR, FOUR)
        self.assertEqual(len(found.plan), 7)
        self.assertTrue(is_right(woven_by(FOUR, FOUR, found.plan)))
        self.assertEqual(list(found.wrongs), [plan for plan in plans(FOUR, FOUR) if len(plan) < 7])
        self.assertGreater(len(found.wrongs), 20)
        for plan, deeds in found.wrongs.items():
            schedule = woven_by(FOUR, FOUR, plan)
            self.assertTrue(any(Wrong(deeds).shows(schedule, wish) for wish in LOOKING))
        # Of the plans of its length, some that come ahead of the right one are wrong, and not told.
        ahead = plans(FOUR, FOUR)[:plans(FOUR, FOUR).index(found.plan)]
        self.assertTrue([plan for plan in ahead if len(plan) == 7])

    def test_against_the_model(self):
        seen = set()
        for one, other, lag in PATIENT + tuple((*pair, (0, 1, 4)[at % 3]) for at, pair in enumerate(pairs(36))):
            found = self.check(one, other, lag)
            seen.add((found.__class__.__name__, len(found.wrongs) > 0, lag))
        # With lag 0, the shortest plan is right if one is.
        self.assertEqual(len(seen), 8)

    def test_the_longest_pair(self):
        for lag in (0, 4):
            found = weave(EDITIONS, EDITIONS, lag=lag)
            self.assertIs(found.__class__, NoPlan)
            self.assertEqual(list(found.wrongs), plans(EDITIONS, EDITIONS))
            self.assertTrue(found.shows(EDITIONS, EDITIONS, lag=lag))

    def test_the_default_lag_is_1(self):
        for one, other in ((NARROW, NARROW), (FOUR, FOUR)):
            self.assertEqual(weave(one, other), weave(one, other, lag=1))
            self.assertEqual(least_steps(one, other), least_steps(one, other, lag=1))
            self.assertNotEqual(least_steps(one, other), least_steps(one, other, lag=0))
            self.assertTrue(weave(one, other).shows(one, other))
            self.assertFalse(weave(one, other, lag=0).shows(one, other))

    def test_what_is_returned_is_new(self):
        found = weave(FOUR, FOUR)
        found.states.clear()
        for plan in found.wrongs:
            found.wrongs[plan].clear()
        self.assertTrue(weave(FOUR, FOUR).shows(FOUR, FOUR))
        none = weave(NARROW, NARROW)
        none.wrongs.clear()
        self.assertEqual(len(weave(NARROW, NARROW).wrongs), 36)


class Large(unittest.TestCase):
    """Where TooLarge is asked: for plans up to the first right one, this one included."""

    def large(self, pair, lag):
        """The places, among the plans, of those for which it is due, and of the right ones among the others."""
        much, right = [], []
        for at, plan in enumerate(plans(*pair)):
            schedule = woven_by(*pair, plan)
            try:
                all_states(schedule, lag=lag)
            except TooLarge:
                much.append(at)
            else:
                right += [at] if is_right(schedule, lag=lag) else []
        return much, right

    def test_behind_the_first_right_one(self):
        for pair, lag, first in ((LATE, 1, 0), (LATER, 2, 1), (LATE_TWIN, 2, 0)):
            much, right = self.large(pair, lag)
            self.assertEqual(right[0], first)
            self.assertTrue(much and min(much) > first)
            found = weave(*pair, lag=lag)
            self.assertTrue(found.shows(*pair, lag=lag))
            self.assertEqual(least_steps(*pair, lag=lag), len(plans(*pair)[first]))

    def test_at_the_first_right_one(self):
        refused(self, lambda: weave(*AT_ONCE), TooLarge)
        refused(self, lambda: least_steps(*AT_ONCE), TooLarge)
        refused(self, lambda: all_states(woven_by(*AT_ONCE, plans(*AT_ONCE)[0])), TooLarge)
        # A smaller pair of the same words is right at once, so it is the right one that is too large.
        small = [Schedule(1, schedule.first, schedule.steps) for schedule in AT_ONCE]
        self.assertTrue(is_right(woven_by(*small, plans(*small)[0])))

    def test_ahead_of_the_first_right_one(self):
        much, right = self.large(EARLY, 2)
        self.assertEqual((min(much), right[0]), (2, 15))
        refused(self, lambda: weave(*EARLY, lag=2), TooLarge)
        refused(self, lambda: least_steps(*EARLY, lag=2), TooLarge)

    def test_ahead_of_the_first_right_one_and_as_long(self):
        much, right = self.large(EARLY_TWIN, 2)
        self.assertEqual((much[:2], right[0]), ([1, 2], 3))
        self.assertEqual({len(plan) for plan in plans(*EARLY_TWIN)[1:4]}, {5})
        refused(self, lambda: weave(*EARLY_TWIN, lag=2), TooLarge)
        refused(self, lambda: least_steps(*EARLY_TWIN, lag=2), TooLarge)

    def test_the_other_errors_first(self):
        for door in (weave, least_steps):
            refused(self, lambda: door(*AT_ONCE, lag=5), BadLag)
            refused(self, lambda: door(AT_ONCE[0], SHORT, lag=5), BadPair)

    def test_plans_and_shows_do_not_ask(self):
        told = plans(*AT_ONCE)
        self.assertEqual(len(woven_by(*AT_ONCE, told[0])), 5)
        self.assertFalse(Shortest(told[0], [], {}).shows(*AT_ONCE))
        self.assertFalse(NoPlan({}).shows(*EARLY, lag=2))
        self.assertFalse(NoPlan({plan: [] for plan in plans(*EARLY)}).shows(*EARLY, lag=2))
        # The right plan of a pair for which TooLarge is due, shown by what is no search.
        right = plans(*EARLY)[15]
        states = all_states(woven_by(*EARLY, right), lag=2)
        self.assertIs(Shortest(right, states, {}).shows(*EARLY, lag=2), False)


class Shows(unittest.TestCase):
    ASKED = ((FOUR, FOUR, 1), (NARROW, NARROW, 0), (STILL, STILL, 4), (LATER[0], LATER[1], 2))
    NOTHING = ((NARROW, NARROW, 1), (HASTY, STILL, 0), (HASTY, HASTY, 2))

    def test_another_order(self):
        for one, other, lag in self.ASKED:
            found = weave(one, other, lag=lag)
            states = found.states[::-1] + found.states[:3]
            wrongs = {plan: found.wrongs[plan] for plan in list(found.wrongs)[::-1]}
            self.assertTrue(Shortest(found.plan, states, wrongs).shows(one, other, lag=lag))
        for one, other, lag in self.NOTHING:
            found = weave(one, other, lag=lag)
            wrongs = {plan: found.wrongs[plan] for plan in list(found.wrongs)[::-1]}
            self.assertTrue(NoPlan(wrongs).shows(one, other, lag=lag))

    def test_each_plan_in_place_of_the_shortest_one(self):
        """Another right one of its length is as good; a wrong or a longer one is not."""
        for one, other, lag in ((NARROW, NARROW, 0), (STILL, STILL, 1), (HASTY, Schedule(1, ABSENT, ()), 0)):
            found = weave(one, other, lag=lag)
            if found.__class__ is NoPlan:
                found = Shortest((), [], found.wrongs)
            for plan in plans(one, other):
                states = all_states(woven_by(one, other, plan), lag=lag)
                told = Shortest(plan, states, found.wrongs).shows(one, other, lag=lag)
                good = is_right_plan(one, other, plan, lag) and len(plan) == len(found.plan)
                self.assertIs(told, good, plan)

    def test_two_plans_of_one_length(self):
        one = Schedule(1, PUBLIC, (TO_DELETE,))
        states = all_states(woven_by(one, one, ("one", "other")))
        self.assertFalse(Shortest(("one", "other"), states, {}).shows(one, one))
        filled = Schedule(1, WRITE, (FILL,))
        for plan in (("one", "other"), ("other", "one")):
            states = all_states(woven_by(filled, filled, plan))
            self.assertTrue(Shortest(plan, states, {}).shows(filled, filled))
        # The states of the one plan are not those of the other one.
        other = [(0, False, None, ((), ())), (9, False, None, ((), ()))]
        self.assertFalse(Shortest(plan, other, {}).shows(filled, filled))

    def test_a_longer_plan(self):
        """With all shorter plans told, of which a right one has no weaving."""
        one = Schedule(1, WRITE, (TO_WRITE,))
        states = all_states(woven_by(one, one, ("one", "other")))
        self.assertFalse(Shortest(("one", "other"), states, {}).shows(one, one))
        for deeds in ([], [("begin",)], None, [("put", 0, 0)]):
            self.assertFalse(Shortest(("one", "other"), states, {("both",): deeds}).shows(one, one))

    def test_what_is_no_plan(self):
        one, other, lag = self.ASKED[1]
        found = weave(one, other, lag=lag)
        for plan in STRANGE + (
            None, (), ("both",), ("one",) * 4, ("both", "one", "other"), list(found.plan), found.plan + ("one",),
            (Agreeable(),), (Agreeable(),) * 4, ("both", "one", "other", "Both"), ("both", "one", "other", None),
        ):
            self.assertFalse(Shortest(plan, found.states, found.wrongs).shows(one, other, lag=lag))

    def test_states_changed(self):
        for one, other, lag in self.ASKED:
            found = weave(one, other, lag=lag)
            for at in range(0, len(found.states), 1 + len(found.states) // 20):
                states = found.states[:at] + found.states[at + 1:]
                self.assertFalse(Shortest(found.plan, states, found.wrongs).shows(one, other, lag=lag))
            self.assertFalse(Shortest(found.plan, [], found.wrongs).shows(one, other, lag=lag))
        one, other, lag = self.ASKED[1]
        found = weave(one, other, lag=lag)
        for state in ((4, False, 0, ((), ())), (4, False, None, ((0,), ())), None, (0, False, None, ((),)), (True,)):
            states = found.states + [state]
            self.assertFalse(Shortest(found.plan, states, found.wrongs).shows(one, other, lag=lag))
        # Something that is left breaks none of both wishes.
        gone = Schedule(1, PUBLIC, (TO_ABSENT,))
        self.assertTrue(weave(gone, gone, lag=0).shows(gone, gone, lag=0))

    def changes(self, wrongs, told):
        """Dicts that differ from one at one plan."""
        for plan in wrongs:
            deeds = wrongs[plan]
            rest = {one: wrongs[one] for one in wrongs if one != plan}
            yield rest
            for other in ([], deeds[:-1], deeds[1:], deeds * 2, deeds + [("visit",)], None, [None] + deeds):
                yield {**rest, plan: other}
            for strange in (("begin", 0), ("cut", 7), ("put", True, 0), (), "begin", Agreeable(), ("fill", 0)):
                yield {**rest, plan: deeds[:1] + [strange] + deeds[1:]}
        for plan in told + [None, 0, "one", ("one", "two"), (None,), ("one",) * 9, (True,)]:
            if plan not in wrongs:
                yield {**wrongs, plan: [("begin",)]}
                yield {**wrongs, plan: None}

    def test_weavings_changed(self):
        seen = []
        for one, other, lag in self.NOTHING:
            told = plans(one, other)
            for wrongs in self.changes(weave(one, other, lag=lag).wrongs, told):
                found = NoPlan(wrongs).shows(one, other, lag=lag)
                if found:
                    self.assertTrue(are_wrongs(one, other, lag, wrongs, told))
                seen.append(found)
        found = weave(FOUR, FOUR)
        for wrongs in self.changes(found.wrongs, plans(FOUR, FOUR)[:60]):
            shown = Shortest(found.plan, found.states, wrongs).shows(FOUR, FOUR)
            if shown:
                self.assertTrue(are_wrongs(FOUR, FOUR, 1, wrongs, list(found.wrongs)))
            seen.append(shown)
        # Nearly all of them are wrong.
        self.assertLess(seen.count(True) * 20, seen.count(False))

    def test_each_change_that_makes_it_wrong(self):
        wrongs = weave(HASTY, HASTY).wrongs
        self.assertTrue(NoPlan(wrongs).shows(HASTY, HASTY))
        for plan in wrongs:
            rest = {one: wrongs[one] for one in wrongs if one != plan}
            self.assertFalse(NoPlan(rest).shows(HASTY, HASTY))
            self.assertFalse(NoPlan({**rest, ("one",): wrongs[plan]}).shows(HASTY, HASTY))
            for deeds in ([], wrongs[plan][:-1], wrongs[plan] + [("visit",)], [("cut", 0)] + wrongs[plan], None):
                self.assertFalse(NoPlan({**rest, plan: deeds}).shows(HASTY, HASTY))
        self.assertFalse(NoPlan({**wrongs, (): [("begin",)]}).shows(HASTY, HASTY))
        self.assertFalse(NoPlan({}).shows(HASTY, HASTY))
        self.assertFalse(NoPlan({}).shows(STILL, STILL))

    def test_a_weaving_to_what_is_left_alone(self):
        """It is no wish of these: nothing is missed, and nothing stray is found."""
        gone = Schedule(1, PUBLIC, (TO_ABSENT,))
        bare = Schedule(1, ABSENT, ())
        deeds = [("put", 0, 0), ("begin",)]
        self.assertTrue(Wrong(deeds).shows(woven_by(gone, bare, ("one",)), "left", lag=0))
        self.assertFalse(NoPlan({("one",): deeds}).shows(gone, bare, lag=0))

    def test_no_plan_where_one_is_right_and_the_other_way_round(self):
        found = weave(NARROW, NARROW, lag=0)
        self.assertFalse(NoPlan(found.wrongs).shows(NARROW, NARROW, lag=0))
        none = weave(NARROW, NARROW)
        for plan in plans(NARROW, NARROW):
            states = all_states(woven_by(NARROW, NARROW, plan))
            shorter = {one: none.wrongs[one] for one in none.wrongs if len(one) < len(plan)}
            self.assertFalse(Shortest(plan, states, shorter).shows(NARROW, NARROW))

    def test_for_others(self):
        found = weave(FOUR, FOUR)
        for one, other, lag in (
            (FOUR, FOUR, 0), (FOUR, FOUR, 2), (NARROW, NARROW, 1), (FOUR, NARROW, 1), (NARROW, FOUR, 1),
            (STILL, STILL, 1), (EDITIONS, EDITIONS, 1),
        ):
            self.assertFalse(found.shows(one, other, lag=lag))
        wide = Schedule(2, ABSENT, FOUR.steps)
        self.assertFalse(found.shows(wide, wide))

    def test_the_current_attributes_tell(self):
        found = weave(FOUR, FOUR)
        self.assertTrue(found.shows(FOUR, FOUR))
        found.wrongs.popitem()
        self.assertFalse(found.shows(FOUR, FOUR))
        found.wrongs = weave(FOUR, FOUR).wrongs
        self.assertTrue(found.shows(FOUR, FOUR))
        found.plan = plans(FOUR, FOUR)[0]
        self.assertFalse(found.shows(FOUR, FOUR))
        none = weave(HASTY, HASTY)
        none.wrongs[("both",)].pop()
        self.assertFalse(none.shows(HASTY, HASTY))

    def test_shows_modifies_nothing(self):
        for one, other, lag in self.ASKED + self.NOTHING:
            found = weave(one, other, lag=lag)
            found.shows(one, other, lag=lag)
            self.assertEqual(found, weave(one, other, lag=lag))


class Equality(unittest.TestCase):
    STATES = [(0, False, None, ((), ()))]
    WRONGS = {("both",): [("begin",)], ("one", "other"): []}

    def test_what_is_handed_in_is_copied(self):
        states, wrongs = list(self.STATES), {plan: list(deeds) for plan, deeds in self.WRONGS.items()}
        found, none = Shortest(("one",), states, wrongs), NoPlan(wrongs)
        states.clear()
        wrongs[("both",)].clear()
        wrongs[()] = []
        self.assertEqual((found.plan, found.states, found.wrongs), (("one",), self.STATES, self.WRONGS))
        self.assertEqual(none.wrongs, self.WRONGS)
        # Two of the same parts do not share them either.
        twins = [NoPlan(self.WRONGS), NoPlan(self.WRONGS)]
        twins[0].wrongs[("both",)].clear()
        self.assertEqual(twins[1].wrongs, self.WRONGS)

    def test_equal_if_all_attributes_are(self):
        turned = dict(list(self.WRONGS.items())[::-1])
        self.assertTrue(Shortest(("one",), self.STATES, self.WRONGS) == Shortest(("one",), self.STATES, turned))
        self.assertFalse(Shortest(("one",), self.STATES, self.WRONGS) != Shortest(
            plan=("one",), states=self.STATES, wrongs=turned,
        ))
        self.assertTrue(NoPlan(self.WRONGS) == NoPlan(wrongs=turned))
        self.assertFalse(NoPlan(self.WRONGS) != NoPlan(turned))

    def test_not_equal_otherwise(self):
        one = Shortest(("one",), self.STATES, self.WRONGS)
        none = NoPlan(self.WRONGS)
        for other in (
            Shortest(("other",), self.STATES, self.WRONGS), Shortest(("one",), [], self.WRONGS),
            Shortest(("one",), self.STATES, {}), Shortest(None, self.STATES, self.WRONGS), NoPlan({}),
            NoPlan({**self.WRONGS, ("both",): []}), Right(self.STATES), Wrong([]), None, self.WRONGS,
            (("one",), self.STATES, self.WRONGS), Agreeable(), NARROW, NoPlan,
        ):
            for told in (one, none):
                self.assertFalse(told == other)
                self.assertTrue(told != other)
        self.assertFalse(one == none)
        self.assertTrue(none != one)


class WrongArguments(unittest.TestCase):
    def test_a_call_that_is_refused_changes_nothing(self):
        found = weave(FOUR, FOUR)
        refused(self, lambda: found.shows(FOUR, FOUR, lag=None), BadLag)
        refused(self, lambda: found.shows(FOUR, SHORT), BadPair)
        self.assertEqual(found, weave(FOUR, FOUR))


if __name__ == "__main__":
    unittest.main()
