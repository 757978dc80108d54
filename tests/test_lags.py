"""Point 7: the greatest lag."""

import random
import unittest

from editionlag.errors import BadSchedule, TooLarge
from editionlag.judging import LOOKING, Right, Wrong, is_right
from editionlag.lags import Bears, bear, greatest_lag
from editionlag.schedules import Schedule
from editionlag.states import all_states
from tests import model
from tests.test_judging import parts, some_schedules
from tests.test_states import ONE_MORE, THOUSAND
from tests.wrong import HUGE, NO_SCHEDULES, SHORT, Agreeable, check_door, refused

DELETE, WRITE, PUBLIC = [("edition", (word,)) for word in ("delete", "write", "public")]
# The greatest lags that they bear, and schedules.
BORNE = [(-1, Schedule(1, ("absent",), (PUBLIC,)))] + [
    (lag, Schedule(1, ("absent",), (DELETE,) * lag + (WRITE,) * (lag + 1) + (("fill", 0), PUBLIC)))
    for lag in range(5)
]
# It is right with lag 0 and not with lag 1, and more than 1000 states come about from lag 2 on.
LATE = Schedule(3, ("absent", "public"), (
    ("edition", ("write", "absent")), ("sweep", 0), ("edition", ("write", "absent")), ("edition", ("delete", "delete")),
    ("sweep", 1), ("sweep", 0),
))
# It is right with lag 0, and more than 1000 states come about from lag 1 on.
EARLY = Schedule(3, ("public", "write"), (
    ("edition", ("absent", "delete")), ("sweep", 0), ("edition", ("absent", "delete")), ("edition", ("write", "absent")),
    ("fill", 1), ("sweep", 0), ("fill", 1),
))


def check(case, schedule, found):
    """Asserts that the model agrees with a Bears."""
    told = (found.states, found.deeds)
    if found.number >= 0:
        case.assertTrue(model.closed(*parts(schedule), found.number, found.states, LOOKING))
    else:
        case.assertEqual(told[0], [])
    if found.number < 4:
        case.assertTrue(model.weaving(*parts(schedule), found.number + 1, found.deeds, LOOKING))
    else:
        case.assertEqual(told[1], [])
    case.assertIs(found.number.__class__, int)


class Greatest(unittest.TestCase):
    def test_each_lag_from_none_to_4(self):
        for lag, schedule in BORNE:
            self.assertEqual(greatest_lag(schedule), lag)
            self.assertEqual([is_right(schedule, lag=some) for some in range(5)], [some <= lag for some in range(5)])
            found = bear(schedule)
            self.assertIs(found.__class__, Bears)
            self.assertEqual(found.number, lag)
            self.assertTrue(found.shows(schedule))
            check(self, schedule, found)

    def test_no_states_and_no_deeds(self):
        self.assertEqual(bear(BORNE[0][1]).states, [])
        self.assertEqual(bear(BORNE[5][1]).deeds, [])
        self.assertEqual(greatest_lag(Schedule(3, ("public", "write"), ())), 4)

    def test_against_the_model(self):
        seen = set()
        for schedule in some_schedules(80):
            rights = [model.is_right(*parts(schedule), lag) for lag in range(5)]
            self.assertEqual(rights, sorted(rights, reverse=True))
            found = bear(schedule)
            self.assertEqual(found.number, sum(rights) - 1)
            self.assertEqual(greatest_lag(schedule), sum(rights) - 1)
            self.assertTrue(found.shows(schedule))
            check(self, schedule, found)
            seen.add((found.number, len(schedule.first)))
        self.assertLessEqual({(-1, 1), (-1, 2), (0, 1), (0, 2), (4, 1), (4, 2)}, seen)

    def test_what_is_left_does_not_matter(self):
        self.assertEqual(greatest_lag(Schedule(1, ("write",), (("edition", ("absent",)),))), 4)

    def test_what_is_returned_is_new(self):
        schedule = BORNE[2][1]
        found = bear(schedule)
        found.states.clear()
        found.deeds.clear()
        self.assertTrue(bear(schedule).shows(schedule))
        self.assertIsNot(bear(schedule), found)


class Large(unittest.TestCase):
    def test_a_thousand_states(self):
        told = all_states(THOUSAND, lag=4)
        self.assertEqual(len(told), 1000)
        found = bear(THOUSAND)
        self.assertEqual(found.number, sum(is_right(THOUSAND, lag=lag) for lag in range(5)) - 1)
        self.assertTrue(found.shows(THOUSAND))
        # All lags are asked, and none has more than 1000 states.
        never = Schedule(3, ("absent", "write"), tuple(
            ("edition", tuple("write" if word == "public" else word for word in step[1]))
            if step[0] == "edition" else step for step in THOUSAND.steps
        ))
        self.assertEqual(len(all_states(never, lag=4)), 1000)
        self.assertEqual(bear(never).number, 4)
        self.assertEqual(len(bear(never).states), 1000)

    def test_more_with_a_lag_that_is_not_asked(self):
        self.assertEqual([len(model.deeds_to(*parts(LATE), lag)) > 1000 for lag in (1, 3)], [False, True])
        refused(self, lambda: is_right(LATE, lag=3), TooLarge)
        self.assertEqual(greatest_lag(LATE), 0)
        self.assertTrue(bear(LATE).shows(LATE))

    def test_more_with_the_lag_that_is_greater_by_1(self):
        self.assertEqual([len(model.deeds_to(*parts(EARLY), lag)) > 1000 for lag in (0, 1)], [False, True])
        self.assertTrue(is_right(EARLY, lag=0))
        refused(self, lambda: bear(EARLY), TooLarge)
        refused(self, lambda: greatest_lag(EARLY), TooLarge)

    def test_more_with_lag_0_and_with_lag_4(self):
        for door in (bear, greatest_lag):
            refused(self, lambda: door(HUGE), TooLarge)
        never = Schedule(3, ("write", "delete"), ONE_MORE.steps)
        self.assertEqual(len(model.deeds_to(*parts(never), 4)), 1001)
        for door in (bear, greatest_lag):
            refused(self, lambda: door(never), TooLarge)

    def test_shows_does_not_ask(self):
        self.assertFalse(Bears(-1, [], []).shows(HUGE))
        self.assertFalse(Bears(4, [], []).shows(HUGE))
        states = [model.as_told(state) for state in model.deeds_to(*parts(ONE_MORE), 4)]
        self.assertTrue(Bears(4, states, []).shows(ONE_MORE))
        self.assertFalse(Bears(4, states[1:], []).shows(ONE_MORE))


class Shows(unittest.TestCase):
    def test_another_order_and_more(self):
        schedule = BORNE[2][1]
        found = bear(schedule)
        self.assertTrue(Bears(1, found.states[::-1] + found.states[:4], found.deeds).shows(schedule))
        self.assertTrue(Bears(1, all_states(schedule), found.deeds + [("begin",)][:0]).shows(schedule))

    def test_another_number(self):
        for lag, schedule in BORNE:
            found = bear(schedule)
            for number in (-3, -2, -1, 0, 1, 2, 3, 4, 5, 6, 10 ** 9):
                other = Bears(number, found.states, found.deeds)
                self.assertEqual(other.shows(schedule), number == lag)

    def test_a_number_that_is_no_integer(self):
        for number, schedule in ((False, BORNE[1][1]), (True, BORNE[2][1])):
            found = bear(schedule)
            self.assertEqual(found.number, number)
            self.assertFalse(Bears(number, found.states, found.deeds).shows(schedule))

    def test_states_left_out_or_put_in(self):
        schedule = BORNE[1][1]
        found = bear(schedule)
        for at in range(len(found.states)):
            self.assertFalse(Bears(0, found.states[:at] + found.states[at + 1:], found.deeds).shows(schedule))
        self.assertFalse(Bears(0, [], found.deeds).shows(schedule))
        self.assertFalse(Bears(0, found.states + [(3, False, 0, ((),))], found.deeds).shows(schedule))
        self.assertFalse(Bears(0, found.states + [(3, False, None, ((0,),))], found.deeds).shows(schedule))
        self.assertFalse(Bears(-1, [(0, False, None, ((),))], bear(BORNE[0][1]).deeds).shows(BORNE[0][1]))

    def test_states_of_another_lag(self):
        schedule = BORNE[2][1]
        found = bear(schedule)
        for lag in range(5):
            states = all_states(schedule, lag=lag)
            expected = model.closed(*parts(schedule), 1, states, LOOKING)
            self.assertEqual(Bears(1, states, found.deeds).shows(schedule), expected)
            self.assertFalse(lag > 1 and expected)
        schedule = BORNE[1][1]
        deeds = bear(Schedule(1, ("absent",), (PUBLIC,))).deeds
        self.assertFalse(Bears(-1, all_states(schedule, lag=0), deeds).shows(schedule))

    def test_deeds_left_out_or_put_in(self):
        chance = random.Random(2)
        for lag, schedule in BORNE[:5]:
            found = bear(schedule)
            self.assertFalse(Bears(lag, found.states, []).shows(schedule))
            self.assertFalse(Bears(lag, found.states, found.deeds[:-1]).shows(schedule))
            for _ in range(40):
                at = chance.randrange(len(found.deeds) + 1)
                put = [chance.choice(model.thinkable_deeds(1, schedule.steps))][:chance.randrange(2)]
                deeds = found.deeds[:at] + put + found.deeds[at + chance.randrange(2):]
                expected = model.weaving(*parts(schedule), lag + 1, deeds, LOOKING)
                self.assertEqual(Bears(lag, found.states, deeds).shows(schedule), expected)
        found = bear(BORNE[5][1])
        self.assertFalse(Bears(4, found.states, [("begin",)]).shows(BORNE[5][1]))

    def test_deeds_to_either_wish(self):
        schedule = BORNE[1][1]
        found = bear(schedule)
        missed = [("begin",), ("begin",), ("visit",), ("put", 0, 0), ("begin",)]
        stray = [("begin",), ("put", 1, 0), ("cut", 0), ("begin",), ("visit",), ("begin",)]
        for deeds, wish in ((missed, "missed"), (stray, "stray")):
            self.assertTrue(Wrong(deeds).shows(schedule, wish))
            self.assertTrue(Bears(0, found.states, deeds).shows(schedule))

    def test_deeds_that_leave_something(self):
        schedule = Schedule(1, ("write",), (("edition", ("absent",)),))
        left = [("put", 0, 0), ("begin",)]
        self.assertTrue(Wrong(left).shows(schedule, "left", lag=0))
        self.assertFalse(Bears(-1, [], left).shows(schedule))

    def test_deeds_that_cannot_be_done(self):
        schedule = BORNE[1][1]
        found = bear(schedule)
        for strange in (("visit", 0), ("cut", 9), ("put", 0, True), ("begin", 1), (), None, Agreeable()):
            for at in range(len(found.deeds) + 1):
                deeds = found.deeds[:at] + [strange] + found.deeds[at:]
                self.assertFalse(Bears(0, found.states, deeds).shows(schedule))

    def test_of_another_schedule(self):
        for lag, schedule in BORNE:
            for other_lag, other in BORNE:
                self.assertEqual(bear(schedule).shows(other), lag == other_lag)

    def test_the_current_attributes_tell(self):
        found = bear(SHORT)
        found.number = 1
        self.assertFalse(found.shows(SHORT))
        found.number = 0
        self.assertTrue(found.shows(SHORT))
        found.states.pop()
        self.assertFalse(found.shows(SHORT))


class Equality(unittest.TestCase):
    STATES = [(0, False, None, ((),))]
    DEEDS = [("begin",)]

    def test_the_lists_are_copied(self):
        states, deeds = list(self.STATES), list(self.DEEDS)
        found = Bears(2, states, deeds)
        states.append(None)
        deeds.clear()
        self.assertEqual((found.number, found.states, found.deeds), (2, self.STATES, self.DEEDS))

    def test_equal_if_all_three_are(self):
        self.assertTrue(Bears(2, self.STATES, self.DEEDS) == Bears(number=2, states=self.STATES, deeds=self.DEEDS))
        self.assertFalse(Bears(2, self.STATES, self.DEEDS) != Bears(2, self.STATES, self.DEEDS))
        self.assertEqual(bear(SHORT), bear(SHORT))

    def test_not_equal_otherwise(self):
        one = Bears(2, self.STATES, self.DEEDS)
        for other in (
            Bears(1, self.STATES, self.DEEDS), Bears(2, [], self.DEEDS), Bears(2, self.STATES, []), None, 2,
            (2, self.STATES, self.DEEDS), Right(self.STATES), Wrong(self.DEEDS), Agreeable(), SHORT,
        ):
            self.assertFalse(one == other)
            self.assertTrue(one != other)
            self.assertFalse(isinstance(other, (Right, Wrong)) and other == one)


class WrongArguments(unittest.TestCase):
    def test_no_schedule(self):
        for door in (bear, greatest_lag, Bears(0, [], []).shows):
            check_door(self, door, [SHORT], [(0, NO_SCHEDULES, BadSchedule, None)])

    def test_there_is_no_lag(self):
        for door in (bear, greatest_lag, Bears(0, [], []).shows):
            self.assertRaises(TypeError, lambda: door(SHORT, lag=1))


if __name__ == "__main__":
    unittest.main()
