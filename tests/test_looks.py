"""Point 8: looks, prices, who comes home, Cheapest and NoWay."""

import itertools
import unittest

from editionlag.errors import BadEdition, BadLag, BadLimit, BadPrices, BadSchedule, BadTable, TooLarge
from editionlag.judging import Right, Wrong, is_kept, is_right
from editionlag.lags import Bears
from editionlag.looks import Cheapest, NoWay, cheapest, comes_home, least_price, look_of
from editionlag.schedules import Schedule
from tests import model
from tests.test_judging import DROPPED, parts, some_schedules
from tests.test_states import ONE_MORE, THOUSAND
from tests.wrong import HUGE, NO_LAGS, NO_SCHEDULES, SHORT, STRANGE, Agreeable, check_door, refused

WORDS = ("absent", "delete", "public", "write")
EDITIONS = [(word,) for word in WORDS]
ABSENT, DELETE, PUBLIC, WRITE = EDITIONS
FILL, SWEEP = ("fill", 0), ("sweep", 0)
TO_DELETE, TO_WRITE, TO_PUBLIC = ("edition", DELETE), ("edition", WRITE), ("edition", PUBLIC)
# From absent to public with lag 1, and nothing cheaper does it.
CAREFUL = (TO_DELETE, TO_WRITE, TO_WRITE, FILL, TO_PUBLIC, TO_PUBLIC)
ROAD = (1, ABSENT, PUBLIC, (1, 1, 1))
NOTHING = (None, ((),))


def start_of(width, first):
    return model.look_of(width, first, (), 0)


class Looks(unittest.TestCase):
    def test_by_hand(self):
        self.assertEqual(look_of(Schedule(1, ABSENT, ())), ((ABSENT,), (NOTHING, (0, ((),)))))
        self.assertEqual(look_of(DROPPED, lag=0), ((ABSENT,), (NOTHING, (None, ((0,),)), (0, ((),)), (0, ((0,),)))))
        self.assertEqual(look_of(DROPPED.with_steps((("edition", ABSENT), SWEEP)), lag=0), ((ABSENT,), (
            NOTHING, (0, ((),)))))
        two = Schedule(1, ("absent", "write"), ())
        self.assertEqual(look_of(two), ((("absent", "write"),), ((None, ((), ())), (0, ((), (0,))))))

    def test_the_editions_of_the_window(self):
        schedule = Schedule(1, ABSENT, CAREFUL)
        self.assertEqual(look_of(schedule, lag=0)[0], (PUBLIC,))
        self.assertEqual(look_of(schedule)[0], (PUBLIC, PUBLIC))
        self.assertEqual(look_of(schedule, lag=4)[0], (DELETE, WRITE, WRITE, PUBLIC, PUBLIC))
        self.assertEqual(look_of(SHORT, lag=4)[0], (ABSENT, WRITE, PUBLIC))

    def test_sights_are_ascending_and_none_stands_first(self):
        found = look_of(Schedule(3, WRITE, (("edition", ABSENT),)))[1]
        self.assertEqual(found, model.sorted_sights([
            (value, (tuple(held),)) for value in (None, 0, 1, 2) for some in range(4)
            for held in itertools.combinations(range(3), some)
        ]))
        self.assertEqual(found[:5], (NOTHING, (None, ((0,),)), (None, ((0, 1),)), (None, ((0, 1, 2),)), (None, ((0, 2),))))

    def test_only_states_that_are_over(self):
        schedule = Schedule(1, ABSENT, (("fill", 0),))
        self.assertEqual(look_of(schedule)[1], (NOTHING, (None, ((0,),)), (0, ((),)), (0, ((0,),))))

    def test_against_the_model(self):
        for schedule, lag in itertools.product(some_schedules(60), (0, 1, 4)):
            self.assertEqual(look_of(schedule, lag=lag), model.look_of(*parts(schedule), lag))

    def test_what_steps_lead_to_hangs_on_the_look_alone(self):
        for schedule, lag in itertools.product(some_schedules(40), (0, 1, 2)):
            if not is_right(schedule, lag=lag):
                continue
            look = look_of(schedule, lag=lag)
            for step in model.all_steps(len(schedule.first)):
                longer = schedule.with_steps(schedule.steps + (step,))
                expected = look_of(longer, lag=lag) if is_right(longer, lag=lag) else None
                self.assertEqual(model.look_behind(schedule.width, look, step, lag), expected)

    def test_a_thousand_states_and_more(self):
        self.assertEqual(look_of(THOUSAND, lag=4), model.look_of(*parts(THOUSAND), 4))
        refused(self, lambda: look_of(ONE_MORE, lag=4), TooLarge)
        refused(self, lambda: look_of(HUGE), TooLarge)
        refused(self, lambda: look_of(HUGE, lag=5), BadLag)

    def test_wrong_arguments(self):
        wrongs = [(0, NO_SCHEDULES, BadSchedule, None), ("lag", NO_LAGS, BadLag)]
        check_door(self, look_of, [SHORT], wrongs, "lag")
        self.assertRaises(TypeError, look_of, SHORT, 1)


class ComesHome(unittest.TestCase):
    def test_against_the_model(self):
        seen = set()
        for schedule, lag in itertools.product(some_schedules(80), (0, 1, 4)):
            for last in {*schedule.editions(), schedule.first[::-1]}:
                found = comes_home(schedule, last, lag=lag)
                self.assertIs(found, model.comes_home(*parts(schedule), lag, last))
                seen.add((found, len(last), lag))
        self.assertEqual(len(seen), 12)

    def test_right_and_does_not_come_home(self):
        self.assertTrue(is_right(DROPPED, lag=0))
        self.assertFalse(comes_home(DROPPED, ABSENT, lag=0))
        self.assertFalse(comes_home(DROPPED, ABSENT))
        self.assertTrue(is_kept(DROPPED, "left"))
        swept = DROPPED.with_steps(DROPPED.steps + (SWEEP,))
        self.assertTrue(comes_home(swept, ABSENT, lag=0))
        self.assertFalse(comes_home(swept, PUBLIC, lag=0))

    def test_all_editions_of_the_window(self):
        careful = Schedule(1, ABSENT, CAREFUL)
        self.assertTrue(comes_home(careful, PUBLIC))
        self.assertFalse(comes_home(careful.with_steps(CAREFUL[:-1]), PUBLIC))
        self.assertTrue(is_right(careful.with_steps(CAREFUL[:-1])))
        self.assertFalse(comes_home(careful, WRITE))

    def test_not_right(self):
        self.assertFalse(comes_home(SHORT, PUBLIC, lag=1))
        self.assertTrue(comes_home(SHORT, PUBLIC, lag=0))
        # All editions at the end are the last one, and nothing is left, but a row was missed on the way.
        missed = Schedule(1, ABSENT, (TO_PUBLIC, ("edition", ABSENT), SWEEP))
        self.assertFalse(comes_home(missed, ABSENT, lag=0))

    def test_no_steps(self):
        for edition in itertools.product(WORDS, repeat=2):
            for lag in (0, 4):
                self.assertTrue(comes_home(Schedule(2, edition, ()), edition, lag=lag))
        self.assertFalse(comes_home(Schedule(2, WRITE, ()), PUBLIC))

    def test_a_thousand_states_and_more(self):
        last = THOUSAND[len(THOUSAND.editions()) - 1]
        self.assertIs(comes_home(THOUSAND, last, lag=4), False)
        for last in (("delete", "write"), ("absent", "absent")):
            refused(self, lambda: comes_home(ONE_MORE, last, lag=4), TooLarge)
        refused(self, lambda: comes_home(HUGE, ("absent", "absent"), lag=0), TooLarge)

    def test_wrong_arguments(self):
        lasts = STRANGE + (None, 0, 2, ("write", "write"), (), ["write"], ("Write",), (True,), (Agreeable(),), WRITE * 3)
        wrongs = [(0, NO_SCHEDULES, BadSchedule, None), ("lag", NO_LAGS, BadLag), (1, lasts, BadEdition)]
        check_door(self, comes_home, [SHORT, WRITE], wrongs, "lag")
        refused(self, lambda: comes_home(HUGE, WRITE, lag=0), BadEdition)
        refused(self, lambda: comes_home(HUGE, None, lag=9), BadLag)
        self.assertRaises(TypeError, comes_home, SHORT, WRITE, 1)


class LeastPrice(unittest.TestCase):
    def test_against_all_right_schedules(self):
        """All schedules of at most three steps, for prices by which no others are within the limit."""
        for (width, lag), first in itertools.product(((1, 0), (1, 1), (2, 0), (1, 4)), EDITIONS):
            rights = model.right_schedules(width, first, lag, 3)
            for last in EDITIONS:
                homes = [steps for steps in rights if model.comes_home(width, first, steps, lag, last)]
                for prices, limit in (((1, 1, 1), 3), ((2, 3, 4), 7), ((9, 9, 9), 30), ((9, 8, 8), 17), ((5, 9, 7), 0)):
                    found = [model.price_of(steps, prices) for steps in homes]
                    expected = min([price for price in found if price <= limit], default=None)
                    self.assertEqual(least_price(width, first, last, prices, limit, lag=lag), expected)

    def test_two_indexes_against_all_right_schedules(self):
        for first, lasts in (
            (("absent", "public"), (("write", "public"), ("absent", "write"), ("absent", "public"))),
            (("write", "delete"), (("public", "delete"), ("delete", "absent"), ("absent", "write"))),
        ):
            rights = model.right_schedules(1, first, 0, 2)
            for last in lasts:
                found = [len(steps) for steps in rights if model.comes_home(1, first, steps, 0, last)]
                self.assertEqual(least_price(1, first, last, (1, 1, 1), 2, lag=0), min(found, default=None))
        self.assertEqual(least_price(1, ("absent", "public"), ("absent", "write"), (1, 1, 1), 2, lag=0), 1)
        self.assertEqual(least_price(1, ("absent", "public"), ("absent", "absent"), (3, 1, 4), 7, lag=0), 7)
        self.assertIsNone(least_price(1, ("absent", "public"), ("absent", "absent"), (3, 1, 4), 6, lag=0))

    def test_limits(self):
        for limit in range(31):
            expected = 6 if limit >= 6 else None
            self.assertEqual(least_price(*ROAD, limit), expected)
        self.assertEqual(least_price(1, ABSENT, ABSENT, (1, 1, 1), 0), 0)
        self.assertIsNone(least_price(1, ABSENT, WRITE, (1, 1, 1), 0))

    def test_prices(self):
        self.assertEqual(least_price(1, ABSENT, PUBLIC, (9, 9, 9), 27, lag=0), 27)
        self.assertIsNone(least_price(1, ABSENT, PUBLIC, (9, 9, 9), 26, lag=0))
        self.assertEqual(least_price(1, ABSENT, PUBLIC, (9, 1, 9), 30, lag=0), 19)
        self.assertEqual(least_price(1, PUBLIC, ABSENT, (2, 9, 9), 30, lag=0), 11)
        # It is cheaper to let servers delete than to sweep, or the other way round.
        self.assertEqual(least_price(1, PUBLIC, ABSENT, (1, 1, 9), 30), 12)
        self.assertEqual(least_price(1, PUBLIC, ABSENT, (5, 1, 1), 30), 16)

    def test_lags(self):
        self.assertEqual([least_price(1, ABSENT, PUBLIC, (1, 1, 1), 30, lag=lag) for lag in range(4)], [3, 6, 8, 10])
        self.assertEqual([least_price(1, PUBLIC, WRITE, (1, 1, 1), 5, lag=lag) for lag in range(5)], [1, 2, 3, 4, 5])
        self.assertEqual([least_price(1, PUBLIC, ABSENT, (1, 1, 1), 8, lag=lag) for lag in range(5)], [2, 4, 6, 8, None])

    def test_the_default_lag_is_1(self):
        self.assertEqual(least_price(*ROAD, 9), 6)
        self.assertEqual(cheapest(*ROAD, 9), cheapest(*ROAD, 9, lag=1))
        self.assertTrue(cheapest(*ROAD, 9).shows(*ROAD, 9))
        self.assertFalse(cheapest(*ROAD, 9).shows(*ROAD, 9, lag=0))


class Evidence(unittest.TestCase):
    def check(self, width, first, last, prices, limit, lag):
        found = cheapest(width, first, last, prices, limit, lag=lag)
        self.assertTrue(found.shows(width, first, last, prices, limit, lag=lag))
        price = least_price(width, first, last, prices, limit, lag=lag)
        if price is None:
            self.assertIs(found.__class__, NoWay)
            self.assertFalse(hasattr(found, "way"))
        else:
            self.assertIs(found.__class__, Cheapest)
            self.assertEqual(model.price_of(found.way, prices), price)
            self.assertLessEqual(price, limit)
            self.assertTrue(model.comes_home(width, first, found.way, lag, last))
        bound = limit + 1 if price is None else price
        self.assertTrue(model.levels_hold(width, first, last, prices, lag, found.levels, bound))
        return found

    def test_one_index(self):
        seen = set()
        for width, first, last in itertools.product((1, 2), EDITIONS, EDITIONS):
            for prices, limit, lag in (((1, 1, 1), 9, 0), ((1, 1, 1), 9, 1), ((2, 9, 1), 30, 1), ((3, 1, 5), 8, 2)):
                seen.add(self.check(width, first, last, prices, limit, lag).__class__)
        self.assertEqual(seen, {Cheapest, NoWay})

    def test_two_indexes_and_the_greatest_lag(self):
        self.check(1, ("absent", "public"), ("public", "public"), (5, 1, 9), 12, 0)
        self.check(2, ("public", "public"), ("absent", "write"), (9, 9, 1), 20, 0)
        self.check(1, ("write", "delete"), ("delete", "write"), (1, 1, 1), 2, 1)
        self.check(1, ABSENT, WRITE, (3, 9, 9), 15, 4)
        self.check(3, PUBLIC, WRITE, (9, 9, 9), 30, 4)

    def test_a_way_without_a_step(self):
        for first, limit in itertools.product(EDITIONS, (0, 30)):
            found = self.check(1, first, first, (1, 1, 1), limit, 1)
            self.assertEqual(found.way, ())
            self.assertEqual(found.levels[start_of(1, first)], 0)

    def test_a_limit_of_nothing(self):
        found = self.check(2, ABSENT, WRITE, (1, 1, 1), 0, 1)
        self.assertTrue(NoWay({start_of(2, ABSENT): 0}).shows(2, ABSENT, WRITE, (1, 1, 1), 0))
        self.assertEqual(found.levels[start_of(2, ABSENT)], 0)

    def test_what_is_returned_is_new(self):
        for limit in (5, 9):
            found = cheapest(*ROAD, limit)
            found.levels.clear()
            self.assertIsNot(cheapest(*ROAD, limit), found)
            self.assertTrue(cheapest(*ROAD, limit).shows(*ROAD, limit))
            self.assertFalse(found.shows(*ROAD, limit))


class Large(unittest.TestCase):
    def test_three_hundred_looks_and_more(self):
        road = (2, ("delete", "public"), ("delete", "absent"), (1, 1, 3))
        looks = model.looks_within(2, start_of(*road[:2]), road[3], 3, 2)
        self.assertEqual(len(looks), 300)
        found = cheapest(*road, 3, lag=2)
        self.assertTrue(found.shows(*road, 3, lag=2))
        self.assertTrue(model.levels_hold(*road, 2, found.levels, 4))
        self.assertIsNone(least_price(*road, 3, lag=2))
        refused(self, lambda: cheapest(*road, 4, lag=2), TooLarge)
        refused(self, lambda: least_price(*road, 4, lag=2), TooLarge)

    def test_one_look_more(self):
        looks = model.looks_within(2, start_of(2, ABSENT), (1, 2, 1), 5, 4)
        self.assertEqual(len(looks), 301)
        for door in (cheapest, least_price):
            for last in EDITIONS:
                refused(self, lambda: door(2, ABSENT, last, (1, 2, 1), 5, lag=4), TooLarge)
        levels = {look: looks[look] for look in looks if looks[look] < 5}
        self.assertEqual(least_price(2, ABSENT, ABSENT, (1, 2, 1), 4, lag=4), 0)
        # What is asked of the cheapest alone.
        self.assertTrue(NoWay(levels).shows(2, ABSENT, PUBLIC, (1, 2, 1), 4, lag=4))
        self.assertTrue(NoWay(looks).shows(2, ABSENT, PUBLIC, (1, 2, 1), 5, lag=4))
        self.assertTrue(Cheapest((), {start_of(2, ABSENT): 0}).shows(2, ABSENT, ABSENT, (1, 2, 1), 5, lag=4))

    def test_the_other_errors_first(self):
        road = (3, ("absent", "absent"), ("public", "public"), (1, 1, 1), 30)
        for door in (cheapest, least_price):
            refused(self, lambda: door(*road), TooLarge)
            refused(self, lambda: door(*road, lag=5), BadLag)
            refused(self, lambda: door(*road[:4], 31), BadLimit)
            refused(self, lambda: door(*road[:3], (0, 1, 1), 30), BadPrices)
        self.assertFalse(NoWay({}).shows(*road))
        self.assertFalse(Cheapest((), {}).shows(*road))

    def test_the_number_of_states_is_not_asked_for(self):
        first, last, prices = ("write", "write"), ("absent", "absent"), (9, 1, 1)
        filled = Schedule(3, first, (("edition", last),) + (("fill", 0),) * 8)
        self.assertEqual(model.price_of(filled.steps, prices), 17)
        refused(self, lambda: is_right(filled, lag=0), TooLarge)
        found = cheapest(3, first, last, prices, 17, lag=0)
        self.assertEqual(model.price_of(found.way, prices), 11)
        self.assertTrue(model.comes_home(3, first, found.way, 0, last))
        self.assertTrue(model.levels_hold(3, first, last, prices, 0, found.levels, 11))
        self.assertTrue(found.shows(3, first, last, prices, 17, lag=0))
        none = cheapest(3, first, ("public", "public"), prices, 17, lag=1)
        self.assertTrue(model.levels_hold(3, first, ("public", "public"), prices, 1, none.levels, 18))

    def test_any_number_of_steps(self):
        """A way of thirteen steps is refused as it is not the cheapest one, and by no error."""
        start = start_of(1, WRITE)
        self.assertFalse(Cheapest((FILL,) * 13, {start: 0}).shows(1, WRITE, WRITE, (9, 1, 9), 30))
        self.assertTrue(Cheapest((), {start: 0}).shows(1, WRITE, WRITE, (9, 1, 9), 30))
        # The cheapest way with lag 4, behind which the model finds more than 300 looks.
        prices, way = (1, 1, 9), (TO_DELETE,) * 4 + (TO_WRITE,) * 5 + (FILL,) + (TO_PUBLIC,) * 5
        looks = model.looks_within(1, start_of(1, ABSENT), prices, 15, 4)
        self.assertGreater(len(looks), 300)
        self.assertEqual(min(looks[look] for look in looks if model.look_is_home(look, PUBLIC)), 15)
        self.assertTrue(Cheapest(way, looks).shows(1, ABSENT, PUBLIC, prices, 15, lag=4))
        self.assertTrue(NoWay(looks).shows(1, ABSENT, PUBLIC, prices, 14, lag=4))
        self.assertFalse(Cheapest(way, looks).shows(1, ABSENT, PUBLIC, prices, 14, lag=4))
        self.assertFalse(Cheapest(way[1:], looks).shows(1, ABSENT, PUBLIC, prices, 15, lag=4))

class Shows(unittest.TestCase):
    def setUp(self):
        self.found = cheapest(*ROAD, 9)
        self.levels = self.found.levels
        self.none = cheapest(*ROAD, 5).levels

    def test_another_order(self):
        turned = {look: self.levels[look] for look in list(self.levels)[::-1]}
        self.assertTrue(Cheapest(self.found.way, turned).shows(*ROAD, 9))
        turned = {look: self.none[look] for look in sorted(self.none, key=str)}
        self.assertTrue(NoWay(turned).shows(*ROAD, 5))

    def test_another_way(self):
        other = (TO_DELETE, TO_DELETE, TO_WRITE, TO_WRITE, FILL, TO_PUBLIC)
        ways = [(), CAREFUL, CAREFUL[:-1], CAREFUL + (FILL,), CAREFUL[::-1], other, (TO_WRITE, FILL) + CAREFUL[2:]]
        ways += [CAREFUL[:at] + (step,) + CAREFUL[at + 1:] for at in range(6) for step in model.all_steps(1)]
        ways += [CAREFUL[:at] + (step,) + CAREFUL[at:] for at in range(7) for step in model.all_steps(1)]
        rights = 0
        for way in ways:
            expected = len(way) == 6 and model.comes_home(1, ABSENT, way, 1, PUBLIC)
            self.assertEqual(Cheapest(way, self.levels).shows(*ROAD, 9), expected)
            rights += expected
        self.assertGreater(rights, 1)

    def test_a_way_beyond_the_limit(self):
        self.assertTrue(Cheapest(CAREFUL, self.levels).shows(*ROAD, 6))
        self.assertFalse(Cheapest(CAREFUL, self.levels).shows(*ROAD, 5))
        self.assertFalse(Cheapest(CAREFUL * 40, self.levels).shows(*ROAD, 9))

    def test_a_way_that_is_no_way(self):
        for way in (None, list(CAREFUL), CAREFUL + (("fill", 1),), CAREFUL + (("fill", False),), (None,), ((),), 0,
                    CAREFUL[:-1] + (("edition", ["public"]),), (("begin", 0),), (("edition", ("write", "write")),)):
            self.assertFalse(Cheapest(way, self.levels).shows(*ROAD, 9))

    def test_a_look_left_out(self):
        for look in self.levels:
            rest = {other: self.levels[other] for other in self.levels if other != look}
            expected = bool(rest) and model.levels_hold(*ROAD, 1, rest, 6)
            self.assertEqual(Cheapest(CAREFUL, rest).shows(*ROAD, 9), expected)
        for look in self.none:
            rest = {other: self.none[other] for other in self.none if other != look}
            self.assertEqual(NoWay(rest).shows(*ROAD, 5), model.levels_hold(*ROAD, 1, rest, 6))
        self.assertFalse(Cheapest(CAREFUL, {}).shows(*ROAD, 9))
        self.assertFalse(NoWay({}).shows(*ROAD, 5))

    def test_a_level_changed(self):
        seen = set()
        for look in self.levels:
            for change in (-6, -1, 1, 2, 10 ** 20):
                other = {**self.levels, look: self.levels[look] + change}
                expected = model.levels_hold(*ROAD, 1, other, 6)
                self.assertEqual(Cheapest(CAREFUL, other).shows(*ROAD, 9), expected)
                self.assertEqual(NoWay(other).shows(*ROAD, 5), expected)
                seen.add((expected, change > 0))
        self.assertLessEqual({(True, False), (False, True)}, seen)
        self.assertLessEqual({(False, False), (False, True)}, seen)

    def test_all_levels_too_low(self):
        low = {look: 0 for look in self.levels}
        self.assertFalse(Cheapest(CAREFUL, low).shows(*ROAD, 9))

    def test_levels_as_low_as_they_may_be(self):
        """Levels need not be prices: what leads nowhere within the bound may have any."""
        everything = model.looks_within(1, start_of(1, ABSENT), (1, 1, 1), 30, 1)
        home = look_of(Schedule(1, ABSENT, CAREFUL))
        high = {look: 6 for look in everything}
        low = {look: max(0, level - 1) for look, level in everything.items()}
        shared = {look: min(level, 6) for look, level in everything.items()}
        for levels, expected in (
            (everything, True), (shared, True), ({**shared, home: 7}, True), ({**shared, home: 5}, False),
            (low, False), (high, False), ({**everything, start_of(1, ABSENT): 1}, False),
        ):
            self.assertEqual(model.levels_hold(*ROAD, 1, levels, 6), expected)
            self.assertEqual(Cheapest(CAREFUL, levels).shows(*ROAD, 9), expected)
            self.assertEqual(NoWay(levels).shows(*ROAD, 5), expected)

    def test_looks_put_in(self):
        everything = model.looks_within(1, start_of(1, ABSENT), (1, 1, 1), 30, 1)
        seen = set()
        for look in everything:
            for level in (0, 3, 5, 6, 9):
                if look not in self.levels:
                    other = {**self.levels, look: level}
                    expected = model.levels_hold(*ROAD, 1, other, 6)
                    self.assertEqual(Cheapest(CAREFUL, other).shows(*ROAD, 9), expected)
                    seen.add(expected)
        self.assertEqual(seen, {True, False})

    def test_a_look_that_comes_home_too_soon(self):
        levels = {**self.levels, look_of(Schedule(1, ABSENT, CAREFUL)): 5}
        self.assertFalse(Cheapest(CAREFUL, levels).shows(*ROAD, 9))

    def test_a_level_below_nothing(self):
        road = (1, ABSENT, PUBLIC, (9, 9, 9), 5)
        for level in (0, 1, 5):
            self.assertTrue(NoWay({start_of(1, ABSENT): 0, start_of(1, WRITE): level}).shows(*road))
        for level in (-1, -2, -9):
            self.assertFalse(NoWay({start_of(1, ABSENT): 0, start_of(1, WRITE): level}).shows(*road))

    def test_booleans_are_no_levels(self):
        start = start_of(1, ABSENT)
        ones = [look for look in self.levels if self.levels[look] == 1]
        for look, level in [(start, False)] + [(look, True) for look in ones]:
            self.assertEqual({**self.levels, look: level}, self.levels)
            self.assertFalse(Cheapest(CAREFUL, {**self.levels, look: level}).shows(*ROAD, 9))
            self.assertFalse(NoWay({**self.none, look: level}).shows(*ROAD, 5))

    def test_what_is_no_look(self):
        far = 10 ** 6
        for look in (
            None, (), 0, "look", (ABSENT,), (ABSENT, ()), ((), (NOTHING,)), ((ABSENT,), NOTHING), ((("index",),), ()),
            ((ABSENT,), (((), None),)), ((ABSENT,), ((1, ((),)),)), ((ABSENT,), ((0, ((1,),)),)),
            ((ABSENT,), ((False, ((),)),)), ((ABSENT,), ((0, ((False,),)),)), ((ABSENT,), ((0, ()),)),
            ((("absent", "absent"),), ((0, ((), ())),)), ((ABSENT,), ((0, ((),)), NOTHING)),
            ((ABSENT,), (NOTHING, NOTHING)), ((ABSENT,) * 3, (NOTHING,)), ((ABSENT,), (NOTHING,), ()),
        ):
            self.assertFalse(Cheapest(CAREFUL, {**self.levels, look: far}).shows(*ROAD, 9))
            self.assertFalse(NoWay({**self.none, look: far}).shows(*ROAD, 5))
            self.assertFalse(NoWay({look: 0}).shows(*ROAD, 5))

    def test_another_road(self):
        for road, limit, lag in (
            ((2, ABSENT, PUBLIC, (1, 1, 1)), 9, 1), ((1, DELETE, PUBLIC, (1, 1, 1)), 9, 1),
            ((1, ABSENT, WRITE, (1, 1, 1)), 9, 1), (ROAD, 9, 0), (ROAD, 9, 2), ((1, ABSENT, PUBLIC, (2, 1, 1)), 9, 1),
        ):
            self.assertFalse(self.found.shows(*road, limit, lag=lag))
        # It costs 7, and levels that are less than they may be show it, too.
        self.assertTrue(self.found.shows(1, ABSENT, PUBLIC, (1, 1, 2), 9))
        self.assertFalse(NoWay(self.none).shows(*ROAD, 6))
        self.assertTrue(NoWay(self.none).shows(*ROAD, 4))

    def test_the_current_attributes_tell(self):
        self.found.way = CAREFUL[1:]
        self.assertFalse(self.found.shows(*ROAD, 9))
        self.found.way = CAREFUL
        self.assertTrue(self.found.shows(*ROAD, 9))
        self.found.levels[start_of(1, ABSENT)] = 1
        self.assertFalse(self.found.shows(*ROAD, 9))
        none = cheapest(*ROAD, 5)
        none.levels = {start_of(1, ABSENT): 0}
        self.assertFalse(none.shows(*ROAD, 5))

    def test_shows_modifies_nothing(self):
        for limit in (5, 9):
            found = cheapest(*ROAD, limit)
            found.shows(*ROAD, limit)
            self.assertEqual(found, cheapest(*ROAD, limit))


class Equality(unittest.TestCase):
    LEVELS = {start_of(1, ABSENT): 0, start_of(1, WRITE): 1}

    def test_the_dict_is_copied(self):
        levels = dict(self.LEVELS)
        found, none = Cheapest((FILL,), levels), NoWay(levels)
        levels.clear()
        self.assertEqual((found.way, found.levels, none.levels), ((FILL,), self.LEVELS, self.LEVELS))

    def test_equal_if_the_attributes_are(self):
        turned = dict(list(self.LEVELS.items())[::-1])
        for one, other in (
            (Cheapest((FILL,), self.LEVELS), Cheapest(way=(FILL,), levels=turned)), (NoWay(self.LEVELS), NoWay(turned)),
        ):
            self.assertTrue(one == other)
            self.assertFalse(one != other)

    def test_not_equal_otherwise(self):
        found, none = Cheapest((FILL,), self.LEVELS), NoWay(self.LEVELS)
        more = {**self.LEVELS, start_of(1, PUBLIC): 0}
        other = {**self.LEVELS, start_of(1, WRITE): 2}
        for one, others in (
            (found, (Cheapest((), self.LEVELS), Cheapest((FILL,), more), Cheapest((FILL,), other), none, Right([]))),
            (none, (NoWay(more), NoWay(other), NoWay({}), found, Wrong([]), Bears(0, [], []))),
        ):
            for two in others + (None, self.LEVELS, (FILL,), ((FILL,), self.LEVELS), Agreeable(), SHORT):
                self.assertFalse(one == two)
                self.assertTrue(one != two)


class WrongArguments(unittest.TestCase):
    def test_all_doors_of_roads(self):
        editions = STRANGE + (None, 0, 2, (), ["write"], ("Write",), (True,), (Agreeable(),), WRITE * 3, ("write", None))
        prices = STRANGE + (
            None, 0, 1, (1, 1), (1, 1, 1, 1), [1, 1, 1], (0, 1, 1), (1, 10, 1), (1, 1, -1), (1, True, 1), (1, 1, None),
            (1, "1", 1), ((1,), 1, 1), (1, 1, Agreeable()), "111", (False, 1, 1), (1, [], 1),
        )
        wrongs = [
            (0, STRANGE + (None, 0, 4, (1,), "1"), BadTable),
            (1, editions + (("write", "write"),), BadTable),
            (2, editions + (("write", "write"),), BadTable),
            (3, prices, BadPrices),
            (4, STRANGE + (None, 31, (1,), "1", [1]), BadLimit),
            ("lag", NO_LAGS, BadLag),
        ]
        for door in (cheapest, least_price, Cheapest((), {}).shows, NoWay({}).shows):
            check_door(self, door, [1, ABSENT, WRITE, (1, 1, 1), 2], wrongs, "lag")
            refused(self, lambda: door(1, ABSENT, ("write", "write"), (1, 1, 1), 2), BadTable)
            refused(self, lambda: door(1, ("write", "write"), ABSENT, (1, 1, 1), 2), BadTable)
            refused(self, lambda: door(0, None, (), None, None, lag=None), BadTable)
            self.assertRaises(TypeError, door, 1, ABSENT, WRITE, (1, 1, 1), 2, 1)

    def test_a_call_that_is_refused_changes_nothing(self):
        found = cheapest(*ROAD, 9)
        refused(self, lambda: found.shows(*ROAD, 31), BadLimit)
        self.assertEqual(found, cheapest(*ROAD, 9))


if __name__ == "__main__":
    unittest.main()
