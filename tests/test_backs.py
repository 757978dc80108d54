"""Point 11: ways back, Back and NoBack."""

import itertools
import random
import unittest

from editionlag.backs import Back, NoBack, back, back_price, back_prices
from editionlag.errors import BadLag, BadLimit, BadPrices, BadSchedule, BadState, NotRight, TooLarge
from editionlag.judging import Right, is_right
from editionlag.looks import Cheapest, NoWay, cheapest, least_price, look_of
from editionlag.schedules import Schedule
from editionlag.states import all_states
from tests import model
from tests.wrong import NO_LAGS, NO_SCHEDULES, SHORT, STRANGE, Agreeable, check_door, refused

WORDS = ("absent", "delete", "public", "write")
ABSENT, DELETE, PUBLIC, WRITE = ("absent",), ("delete",), ("public",), ("write",)
TO_ABSENT, TO_DELETE, TO_PUBLIC, TO_WRITE = [("edition", (word,)) for word in WORDS]
FILL, SWEEP = ("fill", 0), ("sweep", 0)
SIX = (TO_DELETE, TO_WRITE, TO_WRITE, FILL, TO_PUBLIC, TO_PUBLIC)
CAREFUL = Schedule(1, ABSENT, SIX)
# Right as far as two steps with lag 1, and throughout with lag 0.
NARROW = Schedule(1, ABSENT, (TO_WRITE, FILL, TO_PUBLIC))
ONES = (1, 1, 1)
# More than 1000 states come about, and few looks.
FILLED = Schedule(3, ("write", "write"), (("edition", ("absent", "absent")),) + (("fill", 0),) * 8)
NO_PRICES = STRANGE + (
    None, 0, 1, (1, 1), (1, 1, 1, 1), [1, 1, 1], (0, 1, 1), (1, 10, 1), (1, 1, -1), (1, True, 1), (1, 1, None),
    (1, "1", 1), ((1,), 1, 1), (1, 1, Agreeable()), "111", (False, 1, 1),
)
NO_LIMITS = STRANGE + (None, 31, (1,), "1", [1])


def road(schedule):
    """The width, the first edition, and that it comes home to."""
    return schedule.width, schedule.first, schedule.first


def is_way_back(schedule, begun, way, lag):
    return model.comes_home(schedule.width, schedule.first, schedule.steps[:begun] + way, lag, schedule.first)


def do_levels_hold(schedule, begun, prices, lag, levels, bound):
    return model.levels_hold(*road(schedule), prices, lag, levels, bound, schedule.steps[:begun])


def looks_behind(schedule, begun, prices, limit, lag):
    look = model.look_of(schedule.width, schedule.first, schedule.steps[:begun], lag)
    return model.looks_within(schedule.width, look, prices, limit, lag)


class Prices(unittest.TestCase):
    def test_by_hand(self):
        # Servers of the edition delete take nothing but entries away, so nothing has to be swept.
        self.assertEqual(back_prices(CAREFUL, ONES, 9), [0, 2, 3, 3, 3, 4, 4])
        self.assertEqual(back_prices(NARROW, ONES, 9, lag=0), [0, 2, 2, 2])
        self.assertEqual(back_prices(NARROW, ONES, 9), [0, 3, 3])
        self.assertEqual(back_prices(Schedule(2, WRITE, ()), ONES, 0), [0])
        self.assertEqual(back_prices(Schedule(1, ABSENT, (TO_PUBLIC,)), ONES, 9), [0])
        self.assertEqual(back_prices(Schedule(1, WRITE, (TO_ABSENT, TO_PUBLIC, TO_WRITE)), ONES, 30, lag=0), [0, 1])

    def test_one_by_one_against_all_right_schedules(self):
        for first, steps, lag in (
            (ABSENT, (TO_WRITE, FILL), 0), (ABSENT, (TO_DELETE, TO_WRITE), 1), (PUBLIC, (TO_WRITE, SWEEP), 0),
            (WRITE, (TO_PUBLIC,), 1), (DELETE, (TO_ABSENT, TO_DELETE), 1), (PUBLIC, (TO_WRITE, TO_DELETE), 1),
        ):
            schedule = Schedule(1, first, steps)
            for begun in range(len(steps) + 1):
                rights = model.right_schedules(1, first, lag, 3, steps[:begun])
                ways = [told[begun:] for told in rights if model.comes_home(1, first, told, lag, first)]
                for prices in (ONES, (9, 1, 5)):
                    expected = min([model.price_of(way, prices) for way in ways], default=None)
                    if expected is None or expected > 3 * min(prices):
                        # Ways of more steps may be cheaper, or the only ones.
                        continue
                    for limit in (expected, 30):
                        self.assertEqual(back_price(schedule, begun, prices, expected, lag=lag), expected)
                    if expected:
                        self.assertIsNone(back_price(schedule, begun, prices, expected - 1, lag=lag))
                if not ways:
                    self.assertIsNone(back_price(schedule, begun, ONES, 3, lag=lag))

    def test_against_a_search_by_looks(self):
        chance = random.Random(11)
        seen = set()
        for _ in range(60):
            steps = tuple(chance.choice(model.all_steps(1)) for _ in range(chance.randrange(4)))
            schedule = Schedule(chance.choice((1, 2)), (chance.choice(WORDS),), steps)
            prices = tuple(chance.choice((1, 2, 5)) for _ in range(3))
            limit, lag = chance.choice((0, 3, 4, 6)), chance.choice((0, 1, 2))
            found = []
            for begun in range(len(steps) + 1):
                if not model.is_right(schedule.width, schedule.first, steps[:begun], lag):
                    refused(self, lambda: back_price(schedule, begun, prices, limit, lag=lag), NotRight)
                    break
                looks = looks_behind(schedule, begun, prices, limit, lag)
                self.assertLessEqual(len(looks), 300)
                homes = [looks[look] for look in looks if model.look_is_home(look, schedule.first)]
                found.append(min(homes, default=None))
                self.assertEqual(back_price(schedule, begun, prices, limit, lag=lag), found[-1])
                seen.add((found[-1] is None, found[-1] == 0, begun > 0))
            self.assertEqual(back_prices(schedule, prices, limit, lag=lag), found)
        # From no step, the way back has none.
        self.assertEqual(len(seen), 4)

    def test_two_indexes(self):
        schedule = Schedule(2, ("absent", "public"), (
            ("edition", ("write", "public")), ("fill", 0), ("edition", ("public", "write")), ("sweep", 1),
        ))
        # To come home, the index 0 is emptied, and the index 1 filled.
        self.assertEqual(back_prices(schedule, ONES, 2, lag=0), [0, 2, 2, 2, None])
        self.assertEqual(back_prices(schedule, (5, 1, 1), 11, lag=0), [0, 6, 6, 6, 7])
        found = back(schedule, 4, (5, 1, 1), 11, lag=0)
        self.assertEqual(sorted(found.way), [("edition", ("absent", "public")), ("fill", 1), ("sweep", 0)])
        self.assertTrue(is_way_back(schedule, 4, found.way, 0))

    def test_limits(self):
        for limit in range(31):
            self.assertEqual(back_price(CAREFUL, 6, ONES, limit), 4 if limit >= 4 else None)
            self.assertEqual(back_price(CAREFUL, 0, ONES, limit), 0)
        self.assertEqual(back_prices(CAREFUL, ONES, 0), [0] + [None] * 6)
        self.assertEqual(back_prices(CAREFUL, ONES, 30), back_prices(CAREFUL, ONES, 9))
        self.assertEqual(back_prices(CAREFUL, ONES, 3), [0, 2, 3, 3, 3, None, None])

    def test_the_price_counts_the_way_alone(self):
        self.assertEqual(back_price(NARROW, 3, (2, 1, 5), 9, lag=0), 7)
        self.assertEqual(back_price(NARROW, 3, (9, 9, 9), 18, lag=0), 18)
        self.assertIsNone(back_price(NARROW, 3, (9, 9, 9), 17, lag=0))

    def test_the_default_lag_is_1(self):
        self.assertEqual(back_prices(NARROW, ONES, 9), back_prices(NARROW, ONES, 9, lag=1))
        self.assertEqual(back_price(NARROW, 2, ONES, 9), 3)
        self.assertEqual(back(NARROW, 2, ONES, 9), back(NARROW, 2, ONES, 9, lag=1))
        self.assertTrue(back(NARROW, 2, ONES, 9).shows(NARROW, 2, ONES, 9))
        self.assertFalse(back(NARROW, 2, ONES, 9, lag=0).shows(NARROW, 2, ONES, 9))
        refused(self, lambda: back(NARROW, 3, ONES, 9), NotRight)

    def test_the_list_is_new(self):
        back_prices(CAREFUL, ONES, 9).clear()
        self.assertEqual(len(back_prices(CAREFUL, ONES, 9)), 7)


class Evidence(unittest.TestCase):
    def check(self, schedule, begun, prices, limit, lag):
        found = back(schedule, begun, prices, limit, lag=lag)
        self.assertTrue(found.shows(schedule, begun, prices, limit, lag=lag))
        price = back_price(schedule, begun, prices, limit, lag=lag)
        self.assertEqual(back_prices(schedule, prices, limit, lag=lag)[begun], price)
        if price is None:
            self.assertIs(found.__class__, NoBack)
            self.assertFalse(hasattr(found, "way"))
        else:
            self.assertIs(found.__class__, Back)
            self.assertEqual(model.price_of(found.way, prices), price)
            self.assertLessEqual(price, limit)
            self.assertTrue(is_way_back(schedule, begun, found.way, lag))
        bound = limit + 1 if price is None else price
        self.assertTrue(do_levels_hold(schedule, begun, prices, lag, found.levels, bound))
        return found

    def test_from_each_number_of_steps(self):
        for begun in range(7):
            for limit, lag in ((9, 1), (3, 1), (0, 1)):
                self.check(CAREFUL, begun, ONES, limit, lag)
        for begun in range(4):
            self.check(NARROW, begun, (2, 1, 5), 9, 0)

    def test_other_schedules(self):
        for width, first, step, lag in itertools.product((1, 2), WORDS, model.all_steps(1), (0, 1)):
            schedule = Schedule(width, (first,), (step, FILL))
            if is_right(schedule, lag=lag):
                for begun in range(3):
                    self.check(schedule, begun, (2, 1, 3), 7, lag)

    def test_two_indexes_and_the_greatest_lag(self):
        gone = Schedule(1, ("public", "absent"), (("edition", ("write", "absent")), ("edition", ("write", "absent"))))
        self.check(gone, 2, (9, 1, 9), 18, 1)
        self.check(gone, 2, (4, 9, 9), 4, 0)
        self.check(Schedule(1, PUBLIC, (TO_WRITE, TO_WRITE)), 2, (3, 9, 9), 15, 4)
        self.check(Schedule(3, WRITE, (TO_ABSENT,)), 1, (9, 1, 9), 30, 4)

    def test_a_way_without_a_step(self):
        for begun, schedule, lag in (
            (0, CAREFUL, 1), (0, Schedule(3, ("public", "delete"), ()), 4), (1, Schedule(1, WRITE, (FILL,)), 1),
            (2, Schedule(1, WRITE, (TO_DELETE, TO_WRITE)), 0), (2, Schedule(1, ABSENT, (SWEEP, TO_ABSENT)), 3),
        ):
            for limit in (0, 1):
                self.assertEqual(self.check(schedule, begun, (9, 9, 9), limit, lag).way, ())

    def test_a_limit_of_nothing(self):
        found = self.check(CAREFUL, 3, ONES, 0, 1)
        self.assertEqual(list(found.levels.values()), [0])

    def test_from_no_step_it_is_as_the_cheapest(self):
        for limit in (0, 4):
            found = back(CAREFUL, 0, ONES, limit)
            other = cheapest(1, ABSENT, ABSENT, ONES, limit)
            self.assertEqual((found.way, found.levels), (other.way, other.levels))
        self.assertEqual(back_price(CAREFUL, 0, ONES, 4), least_price(1, ABSENT, ABSENT, ONES, 4))

    def test_only_the_steps_that_have_begun_count(self):
        for begun in (0, 2, 4):
            cut = CAREFUL.with_steps(SIX[:begun])
            self.assertEqual(back(CAREFUL, begun, ONES, 9), back(cut, begun, ONES, 9))
        wrong = CAREFUL.with_steps(SIX[:3] + (TO_PUBLIC, TO_ABSENT))
        self.assertEqual(back(wrong, 3, ONES, 9), back(CAREFUL, 3, ONES, 9))
        self.assertEqual(back_prices(wrong, ONES, 9), [0, 2, 3, 3])
        for begun in (4, 5):
            refused(self, lambda: back(wrong, begun, ONES, 9), NotRight)

    def test_what_is_returned_is_new(self):
        for limit in (3, 9):
            found = back(CAREFUL, 6, ONES, limit)
            found.levels.clear()
            self.assertTrue(back(CAREFUL, 6, ONES, limit).shows(CAREFUL, 6, ONES, limit))
            self.assertFalse(found.shows(CAREFUL, 6, ONES, limit))


class Large(unittest.TestCase):
    def test_three_hundred_looks(self):
        """From the last step; from the first look on there are more."""
        schedule, prices = Schedule(1, DELETE, (TO_ABSENT, SWEEP)), (1, 1, 3)
        self.assertEqual(len(looks_behind(schedule, 2, prices, 6, 4)), 300)
        found = back(schedule, 2, prices, 6, lag=4)
        self.assertTrue(found.shows(schedule, 2, prices, 6, lag=4))
        self.assertEqual(back_price(schedule, 2, prices, 6, lag=4), 5)
        self.assertTrue(do_levels_hold(schedule, 2, prices, 4, found.levels, 5))
        refused(self, lambda: back(schedule, 0, prices, 6, lag=4), TooLarge)
        refused(self, lambda: back_price(schedule, 0, prices, 6, lag=4), TooLarge)
        refused(self, lambda: back_prices(schedule, prices, 6, lag=4), TooLarge)

    def test_one_look_more(self):
        schedule, prices = Schedule(2, ABSENT, (TO_DELETE, TO_DELETE, FILL)), (1, 3, 5)
        looks = looks_behind(schedule, 3, prices, 6, 4)
        self.assertEqual(len(looks), 301)
        refused(self, lambda: back(schedule, 3, prices, 6, lag=4), TooLarge)
        refused(self, lambda: back_price(schedule, 3, prices, 6, lag=4), TooLarge)
        # What is asked of the search alone.
        bound = min([looks[look] for look in looks if model.look_is_home(look, ABSENT)], default=7)
        self.assertIs(NoBack(looks).shows(schedule, 3, prices, 6, lag=4), bound == 7)
        self.assertTrue(NoBack(looks).shows(schedule, 3, prices, bound - 1, lag=4))

    def test_prices_ask_as_long_as_the_steps_are_right(self):
        schedule, prices = Schedule(1, PUBLIC, (TO_WRITE, FILL)), (1, 5, 5)
        self.assertEqual(back_price(schedule, 0, prices, 9, lag=4), 0)
        refused(self, lambda: back_price(schedule, 2, prices, 9, lag=4), TooLarge)
        refused(self, lambda: back_prices(schedule, prices, 9, lag=4), TooLarge)
        # Behind what is not right, nothing is asked for.
        wrong = Schedule(1, PUBLIC, (TO_ABSENT, TO_WRITE, FILL))
        self.assertEqual(back_prices(wrong, prices, 9, lag=4), [0])

    def test_the_number_of_states_is_not_asked_for(self):
        refused(self, lambda: all_states(FILLED, lag=0), TooLarge)
        self.assertEqual(back_prices(FILLED, (9, 1, 1), 11, lag=0), [0] + [9] * 9)
        for begun in (0, 9):
            found = back(FILLED, begun, (9, 1, 1), 11, lag=0)
            self.assertTrue(found.shows(FILLED, begun, (9, 1, 1), 11, lag=0))
        self.assertTrue(NoBack(back(FILLED, 9, (9, 1, 1), 8, lag=0).levels).shows(FILLED, 9, (9, 1, 1), 8, lag=0))

    def test_any_number_of_steps(self):
        full = Schedule(1, PUBLIC, (TO_WRITE,) * 12)
        found = back(full, 12, (1, 9, 9), 9)
        self.assertEqual(found.way, (TO_PUBLIC, TO_PUBLIC))
        self.assertTrue(found.shows(full, 12, (1, 9, 9), 9))
        self.assertFalse(Back((FILL,) * 13 + found.way, found.levels).shows(full, 12, (1, 1, 9), 30))

    def test_the_other_errors_first(self):
        schedule = Schedule(1, DELETE, (TO_ABSENT, SWEEP, TO_PUBLIC))
        for door in (back, back_price):
            refused(self, lambda: door(schedule, 0, (1, 1, 3), 6, lag=4), TooLarge)
            refused(self, lambda: door(schedule, 3, (1, 1, 3), 6, lag=4), NotRight)
            refused(self, lambda: door(schedule, 3, (1, 1, 3), 31, lag=4), BadLimit)
            refused(self, lambda: door(schedule, 3, (1, 1, 0), 31, lag=4), BadPrices)
            refused(self, lambda: door(schedule, 4, (1, 1, 0), 31, lag=4), BadState)
            refused(self, lambda: door(schedule, 4, (1, 1, 0), 31, lag=5), BadLag)
        self.assertFalse(NoBack({}).shows(schedule, 0, (1, 1, 3), 6, lag=4))
        self.assertFalse(Back((), {}).shows(schedule, 0, (1, 1, 3), 6, lag=4))
        start = look_of(schedule.with_steps(()), lag=4)
        self.assertTrue(Back((), {start: 0}).shows(schedule, 0, (1, 1, 3), 6, lag=4))


class Shows(unittest.TestCase):
    ASKED = (CAREFUL, 6, ONES, 9)
    NEAR = (CAREFUL, 6, ONES, 3)

    def setUp(self):
        self.found = back(*self.ASKED)
        self.way, self.levels = self.found.way, self.found.levels
        self.none = back(*self.NEAR).levels
        self.start = look_of(CAREFUL)

    def holds(self, levels, bound=4):
        return bool(levels) and do_levels_hold(CAREFUL, 6, ONES, 1, levels, bound)

    def test_another_order(self):
        turned = {look: self.levels[look] for look in list(self.levels)[::-1]}
        self.assertTrue(Back(self.way, turned).shows(*self.ASKED))
        turned = {look: self.none[look] for look in list(self.none)[::-1]}
        self.assertTrue(NoBack(turned).shows(*self.NEAR))

    def test_another_way(self):
        ways = [(), self.way[::-1], self.way[1:], self.way[:-1], self.way * 2]
        ways += [self.way[:at] + (step,) + self.way[at + 1:] for at in range(4) for step in model.all_steps(1)]
        ways += [self.way[:at] + (step,) + self.way[at:] for at in range(5) for step in model.all_steps(1)]
        rights = 0
        for way in ways:
            expected = len(way) == 4 and is_way_back(CAREFUL, 6, way, 1)
            self.assertEqual(Back(way, self.levels).shows(*self.ASKED), expected)
            rights += expected
        self.assertGreater(rights, 1)

    def test_a_way_beyond_the_limit(self):
        self.assertTrue(Back(self.way, self.levels).shows(CAREFUL, 6, ONES, 4))
        self.assertFalse(Back(self.way, self.levels).shows(CAREFUL, 6, ONES, 3))

    def test_a_way_that_is_no_way(self):
        for way in (
            None, list(self.way), self.way + (("fill", 1),), self.way + (("fill", False),), (None,), ((),), 0, "way",
            self.way[:-1] + (("edition", ["absent"]),), (("begin", 0),), (("edition", ("write", "write")),),
        ):
            self.assertFalse(Back(way, self.levels).shows(*self.ASKED))

    def test_a_look_left_out(self):
        seen = set()
        for look in self.levels:
            rest = {other: self.levels[other] for other in self.levels if other != look}
            self.assertEqual(Back(self.way, rest).shows(*self.ASKED), self.holds(rest))
        for look in self.none:
            rest = {other: self.none[other] for other in self.none if other != look}
            expected = self.holds(rest)
            self.assertEqual(NoBack(rest).shows(*self.NEAR), expected)
            seen.add(expected)
        self.assertIn(False, seen)
        self.assertFalse(Back(self.way, {}).shows(*self.ASKED))
        self.assertFalse(NoBack({}).shows(*self.NEAR))

    def test_a_level_changed(self):
        seen = set()
        for look in self.levels:
            for change in (-4, -1, 1, 2, 10 ** 20):
                other = {**self.levels, look: self.levels[look] + change}
                expected = self.holds(other)
                self.assertEqual(Back(self.way, other).shows(*self.ASKED), expected)
                self.assertEqual(NoBack(other).shows(*self.NEAR), expected)
                seen.add(expected)
        self.assertEqual(seen, {True, False})

    def test_a_look_put_in(self):
        everything = looks_behind(CAREFUL, 6, ONES, 6, 1)
        seen = set()
        for look in everything:
            for level in (0, 3, 4, 9):
                if look not in self.levels:
                    other = {**self.levels, look: level}
                    expected = self.holds(other)
                    self.assertEqual(Back(self.way, other).shows(*self.ASKED), expected)
                    self.assertEqual(NoBack(other).shows(*self.NEAR), expected)
                    seen.add(expected)
        self.assertEqual(seen, {True, False})

    def test_the_start_must_have_0(self):
        for level in (1, -1, None, False, "0", True):
            self.assertFalse(Back(self.way, {**self.levels, self.start: level}).shows(*self.ASKED))
            self.assertFalse(NoBack({**self.none, self.start: level}).shows(*self.NEAR))
        # The look of the schedule without steps is not the one that counts.
        first = look_of(CAREFUL.with_steps(()))
        self.assertFalse(NoBack({first: 0}).shows(CAREFUL, 6, ONES, 0))
        self.assertTrue(NoBack({self.start: 0}).shows(CAREFUL, 6, ONES, 0))

    def test_booleans_are_no_levels(self):
        ones = [look for look in self.levels if self.levels[look] == 1]
        self.assertTrue(ones)
        for look in ones:
            self.assertFalse(Back(self.way, {**self.levels, look: True}).shows(*self.ASKED))
            self.assertFalse(NoBack({**self.none, look: True}).shows(*self.NEAR))

    def test_what_is_no_look(self):
        for look in (None, (), 0, (ABSENT,), (ABSENT, ()), ((ABSENT,) * 3, ()), ((PUBLIC,), ((False, ((),)),))):
            self.assertFalse(Back(self.way, {**self.levels, look: 99}).shows(*self.ASKED))
            self.assertFalse(NoBack({**self.none, look: 99}).shows(*self.NEAR))

    def test_for_others(self):
        for schedule, begun, prices, lag in (
            (CAREFUL, 5, ONES, 1), (CAREFUL, 0, ONES, 1), (CAREFUL, 6, (2, 1, 1), 1), (CAREFUL, 6, ONES, 0),
            (Schedule(2, ABSENT, SIX), 6, ONES, 1), (Schedule(1, DELETE, SIX), 6, ONES, 1),
        ):
            self.assertFalse(self.found.shows(schedule, begun, prices, 9, lag=lag))
        self.assertFalse(NoBack(self.none).shows(CAREFUL, 6, ONES, 4))
        self.assertTrue(NoBack(self.none).shows(CAREFUL, 6, ONES, 2))

    def test_those_of_the_cheapest_do_not_show_it(self):
        found = cheapest(1, PUBLIC, ABSENT, ONES, 9)
        self.assertEqual(found.way, self.way)
        self.assertFalse(Back(found.way, found.levels).shows(*self.ASKED))

    def test_the_current_attributes_tell(self):
        self.found.way = self.way[1:]
        self.assertFalse(self.found.shows(*self.ASKED))
        self.found.way = self.way
        self.assertTrue(self.found.shows(*self.ASKED))
        self.found.levels[self.start] = 1
        self.assertFalse(self.found.shows(*self.ASKED))
        none = back(*self.NEAR)
        none.levels = {self.start: 0}
        self.assertFalse(none.shows(*self.NEAR))

    def test_shows_modifies_nothing(self):
        for asked in (self.ASKED, self.NEAR):
            found = back(*asked)
            found.shows(*asked)
            self.assertEqual(found, back(*asked))


class Equality(unittest.TestCase):
    LEVELS = {look_of(Schedule(1, ABSENT, ())): 0, look_of(Schedule(1, WRITE, ())): 1}

    def test_the_dict_is_copied(self):
        levels = dict(self.LEVELS)
        found, none = Back((FILL,), levels), NoBack(levels)
        levels.clear()
        self.assertEqual((found.way, found.levels, none.levels), ((FILL,), self.LEVELS, self.LEVELS))

    def test_equal_if_the_attributes_are(self):
        turned = dict(list(self.LEVELS.items())[::-1])
        for one, other in (
            (Back((FILL,), self.LEVELS), Back(way=(FILL,), levels=turned)),
            (NoBack(self.LEVELS), NoBack(levels=turned)),
        ):
            self.assertTrue(one == other)
            self.assertFalse(one != other)

    def test_not_equal_otherwise(self):
        found, none = Back((FILL,), self.LEVELS), NoBack(self.LEVELS)
        other = {look: level + 1 for look, level in self.LEVELS.items()}
        for one, others in (
            (found, (Back((), self.LEVELS), Back((FILL,), {}), Back((FILL,), other), none, Cheapest((FILL,), self.LEVELS))),
            (none, (NoBack(other), NoBack({}), found, NoWay(self.LEVELS), Right([]))),
        ):
            for two in others + (None, self.LEVELS, (FILL,), ((FILL,), self.LEVELS), Agreeable(), SHORT):
                self.assertFalse(one == two)
                self.assertTrue(one != two)


class WrongArguments(unittest.TestCase):
    def test_back_back_price_and_shows(self):
        no_begun = STRANGE + (None, 7, (1,), "1", [1])
        wrongs = [
            (0, NO_SCHEDULES, BadSchedule, None), ("lag", NO_LAGS, BadLag), (1, no_begun, BadState),
            (2, NO_PRICES, BadPrices), (3, NO_LIMITS, BadLimit),
        ]
        for door in (back, back_price, Back((), {}).shows, NoBack({}).shows):
            check_door(self, door, [CAREFUL, 6, ONES, 3], wrongs, "lag")
            refused(self, lambda: door(None, None, None, None, lag=None), BadSchedule, None)
            refused(self, lambda: door(NARROW, 4, ONES, 3), BadState)
            self.assertRaises(TypeError, door, CAREFUL, 6, ONES, 3, 1)

    def test_not_right_comes_last(self):
        for door in (back, back_price, Back((), {}).shows, NoBack({}).shows):
            refused(self, lambda: door(NARROW, 3, ONES, 3), NotRight)
            refused(self, lambda: door(SHORT, 3, ONES, 0, lag=4), NotRight)
            refused(self, lambda: door(NARROW, 3, ONES, 31), BadLimit)
            refused(self, lambda: door(NARROW, 3, (1, 1), 3), BadPrices)
            refused(self, lambda: door(NARROW, 3, ONES, 3, lag=-1), BadLag)

    def test_back_prices(self):
        wrongs = [
            (0, NO_SCHEDULES, BadSchedule, None), ("lag", NO_LAGS, BadLag), (1, NO_PRICES, BadPrices),
            (2, NO_LIMITS, BadLimit),
        ]
        check_door(self, back_prices, [CAREFUL, ONES, 3], wrongs, "lag")
        check_door(self, back_prices, [NARROW, ONES, 3], wrongs, "lag")
        refused(self, lambda: back_prices(None, None, None, lag=None), BadSchedule, None)
        self.assertRaises(TypeError, back_prices, CAREFUL, ONES, 3, 1)

    def test_a_call_that_is_refused_changes_nothing(self):
        found = back(CAREFUL, 6, ONES, 9)
        refused(self, lambda: found.shows(CAREFUL, 6, ONES, 31), BadLimit)
        refused(self, lambda: found.shows(NARROW, 3, ONES, 9), NotRight)
        self.assertEqual(found, back(CAREFUL, 6, ONES, 9))


if __name__ == "__main__":
    unittest.main()
