"""Point 6: Right, Wrong, the soonest, and when a schedule is right."""

import itertools
import random
import unittest

from editionlag import judging
from editionlag.errors import BadLag, BadSchedule, BadWish, TooLarge
from editionlag.judging import WISHES, Right, Wrong, is_kept, is_right, judge, soonest
from editionlag.schedules import Schedule
from editionlag.states import all_states, broken, woven
from tests import model
from tests.test_states import ONE_MORE, THOUSAND
from tests.wrong import HUGE, NO_LAGS, NO_SCHEDULES, NO_WISHES, SHORT, Agreeable, check_door, refused

WORDS = ("absent", "delete", "public", "write")
# Something is left with lag 0, and nothing with a greater one, as the window is not absent throughout.
DROPPED = Schedule(1, ("public",), (("edition", ("absent",)),))


def some_schedules(many):
    """Schedules of all widths, of one and two indexes, always the same ones."""
    chance = random.Random(6)
    for _ in range(many):
        indexes = chance.choice((1, 1, 2))
        width = chance.choice((1, 1, 2))
        steps = []
        for _ in range(chance.randrange(5)):
            edition = ("edition", tuple(chance.choice(WORDS) for _ in range(indexes)))
            steps.append(chance.choice((edition, edition, ("fill", chance.randrange(indexes)),
                                        ("sweep", chance.randrange(indexes)))))
        yield Schedule(width, tuple(chance.choice(WORDS) for _ in range(indexes)), tuple(steps))


def parts(schedule):
    return schedule.width, schedule.first, schedule.steps


class AgainstTheModel(unittest.TestCase):
    """Each of the three wishes, kept and broken, by a search of the test's own."""

    def test_every_answer(self):
        seen = set()
        for schedule, lag in itertools.product(some_schedules(60), (0, 1, 4)):
            soon = {wish: model.soonest(*parts(schedule), lag, wish) for wish in WISHES}
            self.assertEqual(is_right(schedule, lag=lag), soon["missed"] is None and soon["stray"] is None)
            for wish in WISHES:
                seen.add((wish, soon[wish] is None, len(schedule.first)))
                found = judge(schedule, wish, lag=lag)
                self.assertTrue(found.shows(schedule, wish, lag=lag))
                self.assertEqual(soonest(schedule, wish, lag=lag), soon[wish])
                self.assertIs(is_kept(schedule, wish, lag=lag), soon[wish] is None)
                if soon[wish] is None:
                    self.assertIs(found.__class__, Right)
                    self.assertTrue(model.closed(*parts(schedule), lag, found.states, [wish]))
                else:
                    self.assertIs(found.__class__, Wrong)
                    self.assertTrue(model.weaving(*parts(schedule), lag, found.deeds, [wish]))
        self.assertEqual(len(seen), 12)


class Judge(unittest.TestCase):
    def test_wishes(self):
        self.assertEqual(WISHES, ("left", "missed", "stray"))

    def test_left(self):
        found = judge(DROPPED, "left", lag=0)
        self.assertTrue(Wrong([("put", 0, 0), ("begin",)]).shows(DROPPED, "left", lag=0))
        self.assertTrue(found.shows(DROPPED, "left", lag=0))
        self.assertEqual(soonest(DROPPED, "left", lag=0), 2)
        for lag in (1, 2, 3, 4):
            self.assertIsNone(soonest(DROPPED, "left", lag=lag))
            self.assertTrue(is_kept(DROPPED, "left", lag=lag))
        swept = DROPPED.with_steps(DROPPED.steps + (("sweep", 0),))
        self.assertTrue(is_kept(swept, "left", lag=0))

    def test_missed_and_stray(self):
        bare = Schedule(1, ("absent",), (("edition", ("public",)),))
        self.assertEqual([soonest(bare, wish, lag=0) for wish in WISHES], [None, 2, None])
        self.assertEqual([soonest(bare, wish, lag=1) for wish in WISHES], [None, 2, 3])
        self.assertEqual([soonest(SHORT, wish) for wish in WISHES], [None, 5, 6])

    def test_the_default_lag_is_1(self):
        self.assertEqual(soonest(SHORT, "missed"), soonest(SHORT, "missed", lag=1))
        self.assertIsNone(soonest(SHORT, "missed", lag=0))
        self.assertFalse(is_right(SHORT))
        self.assertTrue(is_right(SHORT, lag=0))
        self.assertFalse(is_kept(SHORT, "missed"))
        self.assertFalse(judge(SHORT, "missed").shows(SHORT, "missed", lag=0))

    def test_right_whatever_is_left(self):
        self.assertTrue(is_right(DROPPED, lag=0))
        self.assertFalse(is_kept(DROPPED, "left", lag=0))

    def test_not_right_if_only_one_of_both_is_broken(self):
        # An elder server takes a row out without its entry, but none puts one in without making it.
        stray = Schedule(1, ("write",), (("edition", ("absent",)), ("edition", ("write",)), ("fill", 0),
                                         ("edition", ("public",))))
        self.assertEqual([soonest(stray, wish, lag=0) is None for wish in WISHES], [True, True, False])
        self.assertFalse(is_right(stray, lag=0))
        missed = Schedule(1, ("absent",), (("edition", ("public",)),))
        self.assertEqual([soonest(missed, wish, lag=0) is None for wish in WISHES], [True, False, True])
        self.assertFalse(is_right(missed, lag=0))
        self.assertTrue(is_right(Schedule(1, ("write",), stray.steps[:3]), lag=0))

    def test_lag_4(self):
        steps = tuple(("edition", ("delete",)) for _ in range(4)) + tuple(("edition", ("write",)) for _ in range(5))
        careful = Schedule(1, ("absent",), steps + (("fill", 0), ("edition", ("public",))))
        self.assertTrue(is_right(careful, lag=4))
        self.assertTrue(judge(careful, "stray", lag=4).shows(careful, "stray", lag=4))
        hasty = careful.with_steps(careful.steps[1:])
        self.assertFalse(is_right(hasty, lag=4))
        self.assertTrue(is_right(hasty, lag=3))

    def test_two_indexes(self):
        schedule = Schedule(1, ("public", "absent"), (("edition", ("public", "public")),))
        self.assertFalse(is_right(schedule))
        found = judge(schedule, "missed")
        self.assertEqual(broken(schedule, woven(schedule, found.deeds)[-1]), ["missed"])
        self.assertEqual(soonest(schedule, "missed"), 2)

    def test_what_is_returned_is_new(self):
        for schedule, wish in ((SHORT, "missed"), (SHORT, "left")):
            found = judge(schedule, wish)
            self.assertIsNot(judge(schedule, wish), found)
            (found.states if wish == "left" else found.deeds).clear()
            self.assertFalse(found.shows(schedule, wish))
            self.assertTrue(judge(schedule, wish).shows(schedule, wish))


class Large(unittest.TestCase):
    def test_a_thousand_states(self):
        for wish in WISHES:
            found = judge(THOUSAND, wish, lag=4)
            self.assertTrue(found.shows(THOUSAND, wish, lag=4))
            soon = model.soonest(*parts(THOUSAND), 4, wish)
            self.assertEqual(soonest(THOUSAND, wish, lag=4), soon)
            self.assertEqual(is_kept(THOUSAND, wish, lag=4), soon is None)
        self.assertFalse(is_right(THOUSAND, lag=4))

    def test_one_more(self):
        for wish in WISHES:
            for door in (judge, is_kept, soonest):
                refused(self, lambda: door(ONE_MORE, wish, lag=4), TooLarge)
                refused(self, lambda: door(HUGE, wish), TooLarge)
        refused(self, lambda: is_right(ONE_MORE, lag=4), TooLarge)
        refused(self, lambda: is_right(HUGE), TooLarge)

    def test_too_large_though_a_wish_breaks_soon(self):
        steps = (("edition", ("public", "absent")),) + HUGE.steps[1:]
        schedule = Schedule(3, ("absent", "write"), steps)
        states = model.deeds_to(*parts(schedule), 1)
        self.assertGreater(len(states), 1000)
        self.assertTrue(Wrong([("put", 0, 0), ("begin",)]).shows(schedule, "missed"))
        for door in (judge, is_kept, soonest):
            refused(self, lambda: door(schedule, "missed"), TooLarge)
        refused(self, lambda: is_right(schedule), TooLarge)

    def test_the_other_errors_first(self):
        for door in (judge, is_kept, soonest):
            refused(self, lambda: door(HUGE, "miss"), BadWish)
            refused(self, lambda: door(HUGE, "missed", lag=5), BadLag)
        refused(self, lambda: is_right(HUGE, lag=True), BadLag)

    def test_shows_does_not_ask(self):
        told = [model.as_told(state) for state in model.deeds_to(*parts(HUGE), 0)]
        self.assertGreater(len(told), 1000)
        self.assertTrue(Right(told).shows(HUGE, "missed", lag=0))
        self.assertFalse(Right(told[:-1]).shows(HUGE, "missed", lag=0))
        self.assertFalse(Right([]).shows(HUGE, "missed"))
        self.assertFalse(Wrong([]).shows(HUGE, "missed"))
        self.assertFalse(Wrong([("begin",)] * 2).shows(HUGE, "stray"))


class Shows(unittest.TestCase):
    def test_right_in_another_order_and_with_states_twice(self):
        states = all_states(SHORT, lag=0)
        for told in (states, states[::-1], states + states[:3], sorted(states, key=str) + [states[-1]] * 2):
            for wish in WISHES:
                self.assertTrue(Right(told).shows(SHORT, wish, lag=0))

    def test_right_with_a_state_left_out(self):
        states = all_states(SHORT, lag=0)
        for at in range(len(states)):
            self.assertFalse(Right(states[:at] + states[at + 1:]).shows(SHORT, "missed", lag=0))
        self.assertFalse(Right([]).shows(SHORT, "left"))

    def test_right_with_more_states(self):
        states = all_states(SHORT, lag=0)
        # They do not come about, but what they lead to is there.
        swept = Schedule(1, ("write",), (("sweep", 0),))
        held = all_states(swept, lag=0)
        more = (0, False, None, ((0,),))
        self.assertNotIn(more, held)
        self.assertFalse(Right(held + [more]).shows(swept, "missed", lag=0))
        closed = held + [more, (1, True, None, ((0,),))]
        self.assertTrue(Right(closed).shows(swept, "missed", lag=0))
        # This one breaks wishes, though it does not come about.
        self.assertFalse(Right(states + [(3, False, 1, ((),)), (3, False, 0, ((0,),))]).shows(SHORT, "missed", lag=0))

    def test_right_that_breaks_the_wish_without_coming_about(self):
        schedule = Schedule(1, ("public",), ())
        states = [(0, False, None, ((),)), (0, False, 0, ((0,),))]
        self.assertTrue(Right(states).shows(schedule, "stray"))
        self.assertTrue(Right(states).shows(schedule, "missed"))
        stray = states + [(0, False, None, ((0,),))]
        self.assertFalse(Right(stray).shows(schedule, "stray"))
        self.assertTrue(Right(stray).shows(schedule, "missed"))
        missed = states + [(0, False, 0, ((),))]
        self.assertFalse(Right(missed).shows(schedule, "missed"))
        self.assertTrue(Right(missed).shows(schedule, "stray"))

    def test_right_with_a_state_changed(self):
        states = all_states(SHORT, lag=0)
        chance = random.Random(1)
        for at in range(len(states)):
            begun, due, value, entries = states[at]
            others = [None, 0, 1]
            others.remove(value)
            changed = (begun, due, chance.choice(others), entries)
            told = states[:at] + [changed] + states[at + 1:]
            for wish in WISHES:
                expected = model.closed(*parts(SHORT), 0, told, [wish])
                self.assertEqual(Right(told).shows(SHORT, wish, lag=0), expected)
                self.assertFalse(expected)

    def test_right_of_another_lag_wish_or_schedule(self):
        self.assertFalse(judge(SHORT, "left", lag=0).shows(SHORT, "left", lag=1))
        self.assertTrue(judge(SHORT, "left", lag=0).shows(SHORT, "missed", lag=0))
        self.assertFalse(judge(SHORT, "left", lag=1).shows(SHORT, "missed", lag=1))
        self.assertFalse(judge(SHORT, "left").shows(SHORT.with_steps(SHORT.steps[:2] + (("sweep", 0),)), "left"))

    def test_right_of_what_is_no_state(self):
        states = all_states(SHORT, lag=0)
        for strange in (None, (), (9, False, None, ((),)), (0, 0, None, ((),)), (0, False, True, ((),)), [], [[]]):
            self.assertFalse(Right(states + [strange]).shows(SHORT, "missed", lag=0))

    def test_wrong_by_hand(self):
        missed = [("put", 0, 0), ("begin",), ("begin",), ("visit",), ("put", 0, 1), ("begin",)]
        self.assertTrue(Wrong(missed).shows(SHORT, "missed"))
        self.assertTrue(Wrong(missed).shows(SHORT, "stray"))
        self.assertFalse(Wrong(missed).shows(SHORT, "left"))
        self.assertTrue(Wrong(missed + [("cut", 2), ("put", 2, 1)]).shows(SHORT, "stray"))
        self.assertFalse(Wrong(missed + [("cut", 2), ("put", 2, 1)]).shows(SHORT, "missed"))
        self.assertFalse(Wrong(missed + [("cut", 2), ("put", 1, 0)]).shows(SHORT, "stray"))
        self.assertFalse(Wrong(missed + [("cut", 2)]).shows(SHORT, "missed"))
        self.assertTrue(Wrong(missed).shows(SHORT, "missed", lag=4))

    def test_wrong_with_a_deed_changed_left_out_or_put_in(self):
        found = judge(SHORT, "missed").deeds
        options = model.thinkable_deeds(2, SHORT.steps)
        for at in range(len(found) + 1):
            tries = [found[:at] + [deed] + found[at + rest:] for deed in options for rest in (0, 1)]
            for told in tries + [found[:at] + found[at + 1:]]:
                for wish in WISHES:
                    expected = model.weaving(*parts(SHORT), 1, told, [wish])
                    self.assertEqual(Wrong(told).shows(SHORT, wish), expected)
        self.assertFalse(Wrong(found[:-1]).shows(SHORT, "missed"))

    def test_wrong_that_cannot_be_done(self):
        found = judge(SHORT, "missed").deeds
        for strange in (("cut", 3), ("cut", True), ("begin", 0), ("visit",), ("dig", 0), (), None, "begin", ["begin"],
                        Agreeable()):
            for at in range(len(found) + 1):
                self.assertFalse(Wrong(found[:at] + [strange] + found[at:]).shows(SHORT, "missed"))
        self.assertFalse(judge(SHORT, "missed").shows(SHORT, "missed", lag=0))
        self.assertFalse(Wrong([]).shows(SHORT, "stray"))

    def test_the_current_attribute_tells(self):
        found = judge(SHORT, "missed")
        found.deeds = found.deeds[:-1]
        self.assertFalse(found.shows(SHORT, "missed"))
        found.deeds.append(("begin",))
        self.assertTrue(found.shows(SHORT, "missed"))
        kept = judge(SHORT, "missed", lag=0)
        told = kept.states
        kept.states = []
        self.assertFalse(kept.shows(SHORT, "missed", lag=0))
        kept.states = told
        self.assertTrue(kept.shows(SHORT, "missed", lag=0))
        told.pop(0)
        self.assertFalse(kept.shows(SHORT, "missed", lag=0))

    def test_shows_modifies_nothing(self):
        for wish, lag in (("missed", 0), ("missed", 1)):
            found = judge(SHORT, wish, lag=lag)
            found.shows(SHORT, wish, lag=lag)
            self.assertEqual(found, judge(SHORT, wish, lag=lag))


class Equality(unittest.TestCase):
    STATES = [(0, False, None, ((),)), (0, False, 0, ((0,),))]
    DEEDS = [("put", 0, 0), ("begin",)]

    def test_the_lists_are_copied(self):
        states, deeds = list(self.STATES), list(self.DEEDS)
        right, wrong = Right(states), Wrong(deeds)
        states.clear()
        deeds.clear()
        self.assertEqual(right.states, self.STATES)
        self.assertEqual(wrong.deeds, self.DEEDS)

    def test_equal_if_the_attribute_is(self):
        self.assertTrue(Right(self.STATES) == Right(list(self.STATES)))
        self.assertFalse(Right(self.STATES) != Right(list(self.STATES)))
        self.assertTrue(Wrong(deeds=self.DEEDS) == Wrong(self.DEEDS))
        self.assertFalse(Wrong(self.DEEDS) != Wrong(self.DEEDS))

    def test_not_equal_otherwise(self):
        for one, other in (
            (Right(self.STATES), Right(self.STATES[::-1])), (Right(self.STATES), Right(self.STATES[:1])),
            (Wrong(self.DEEDS), Wrong(self.DEEDS[:1])), (Wrong(self.DEEDS), Wrong([])),
            (Right([]), Wrong([])), (Wrong([]), Right([])), (Right(self.STATES), self.STATES),
            (Wrong(self.DEEDS), self.DEEDS), (Wrong([]), None), (Right([]), []), (Right([]), SHORT),
            (Right([]), Agreeable()), (Wrong([]), Agreeable()), (Right([]), 0), (Right([]), Right),
        ):
            self.assertFalse(one == other)
            self.assertTrue(one != other)


class WrongArguments(unittest.TestCase):
    def test_judge_is_kept_and_soonest(self):
        wrongs = [(0, NO_SCHEDULES, BadSchedule, None), ("lag", NO_LAGS, BadLag), (1, NO_WISHES, BadWish)]
        for door in (judge, is_kept, soonest, Right([]).shows, Wrong([]).shows):
            check_door(self, door, [SHORT, "missed"], wrongs, "lag")

    def test_is_right(self):
        check_door(self, is_right, [SHORT], [(0, NO_SCHEDULES, BadSchedule, None), ("lag", NO_LAGS, BadLag)], "lag")

    def test_all_three_wrong(self):
        for door in (judge, is_kept, soonest, Right([]).shows, Wrong([]).shows):
            refused(self, lambda: door(None, "", lag=-1), BadSchedule, None)

    def test_the_lag_is_a_keyword(self):
        for door in (judge, is_kept, soonest, Right([]).shows, Wrong([]).shows):
            self.assertRaises(TypeError, door, SHORT, "left", 1)
        self.assertRaises(TypeError, is_right, SHORT, 1)

    def test_a_call_that_is_refused_changes_nothing(self):
        found = judge(SHORT, "missed")
        refused(self, lambda: found.shows(SHORT, "miss"), BadWish)
        self.assertEqual(found, judge(SHORT, "missed"))
        self.assertEqual(judging.WISHES, ("left", "missed", "stray"))


if __name__ == "__main__":
    unittest.main()
