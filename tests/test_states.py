"""Points 4, 5 and 6: states, deeds, weavings, what comes about, and wishes."""

import itertools
import unittest

from editionlag.errors import BadDeed, BadDeeds, BadLag, BadSchedule, BadState, TooLarge
from editionlag.schedules import Schedule
from editionlag.states import after, all_states, broken, deeds, first_state, woven
from tests import model
from tests.wrong import NO_LAGS, NO_SCHEDULES, SHORT, STRANGE, Agreeable, check_door, refused

WORDS = ("absent", "delete", "public", "write")
DUE = (2, True, 1, ((0,),))
THOUSAND = Schedule(3, ("absent", "write"), (
    ("edition", ("write", "absent")), ("fill", 1), ("edition", ("public", "public")),
    ("edition", ("write", "delete")), ("sweep", 0), ("fill", 0),
))
ONE_MORE = Schedule(3, ("write", "delete"), (
    ("sweep", 1), ("fill", 0), ("edition", ("write", "absent")), ("edition", ("absent", "delete")),
    ("edition", ("write", "write")), ("edition", ("write", "write")), ("sweep", 1),
    ("edition", ("delete", "write")), ("sweep", 0),
))
NO_STATES = STRANGE + (
    None, 0, (), DUE[:3], DUE + (0,), list(DUE), (2, True, 1, [(0,)]), (2, True, 1, ([0],)), (2, True, 1, (0,)),
    (2, True, 1, ()), (2, True, 1, ((0,), ())), (2, True, 1, ((0, 0),)), (2, True, 1, ((1, 0),)),
    (2, True, 1, ((2,),)), (2, True, 1, ((-1,),)), (2, True, 1, ((True,),)), (2, True, 1, ((None,),)),
    (2, True, 1, (None,)), (2, True, 1, None), (2, True, 1, (set(),)), (2, True, 1, (Agreeable(),)),
    (2, True, 2, ((0,),)), (2, True, -1, ((0,),)), (2, True, True, ((0,),)), (2, True, "1", ((0,),)),
    (2, True, [], ((0,),)), (2, True, Agreeable(), ((0,),)), (2, True, False, ((0,),)),
    (2, 1, 1, ((0,),)), (2, 0, 1, ((0,),)), (2, None, 1, ((0,),)), (2, "", 1, ((0,),)),
    (4, False, 1, ((0,),)), (-1, False, 1, ((0,),)), (True, False, 1, ((0,),)), (None, False, 1, ((0,),)),
    (0, True, 1, ((0,),)), (1, True, 1, ((0,),)), (3, True, 1, ((0,),)), (Agreeable(), True, 1, ((0,),)),
)
NO_DEEDS = STRANGE + (
    None, 0, (), ("begin",), ("begin", 0), ("visit", 0), ["visit"], "visit", (b"visit",), ("Visit",), ("cut",),
    ("cut", 2), ("cut", -1), ("cut", True), ("cut", "0"), ("cut", None), ("cut", 0, 0), ["cut", 0], ("cut", [0]),
    ("put", 0), ("put", 0, 1), ("put", 1, 1), ("put", 2, 0), ("put", 0, 2), ("put", 0, -1), ("put", True, 0),
    ("put", 0, False), ("put", 0, None), ("put", 0, 0, 0), ["put", 0, 0], ("fill", 0), (0, 0), (["cut"], 0),
    (Agreeable(),), ("cut", Agreeable()), (Agreeable(), 0), ("put", 0, (0,)), ("put", {}, set()),
)


def small_schedules():
    """Parts of schedules of each width, of one and of two indexes."""
    for width in (1, 2, 3):
        for first in WORDS:
            for other in WORDS:
                steps = (("edition", (other,)), ("fill", 0), ("edition", ("public",)))
                yield width, (first,), steps
                yield width, (first,), (("sweep", 0), ("edition", (other,)))
        yield width, ("public",), ()
    for first in itertools.product(WORDS, repeat=2):
        yield 1, first, (("edition", first[::-1]), ("fill", 1), ("sweep", 0))
    yield 2, ("absent", "public"), (("edition", ("write", "absent")), ("sweep", 1))
    yield 3, ("write", "delete"), (("fill", 1),)


class First(unittest.TestCase):
    def test_nothing_is_there(self):
        for width in (1, 3):
            self.assertEqual(first_state(Schedule(width, ("public",), ())), (0, False, None, ((),)))
            self.assertEqual(first_state(Schedule(width, ("public", "write"), ())), (0, False, None, ((), ())))
        self.assertIs(first_state(SHORT)[1], False)

    def test_wrong_arguments(self):
        check_door(self, first_state, [SHORT], [(0, NO_SCHEDULES, BadSchedule, None)])


class Deeds(unittest.TestCase):
    def test_the_order(self):
        schedule = Schedule(3, ("absent", "absent"), (("edition", ("write", "write")), ("fill", 1)))
        puts = [("put", n, v) for n in (0, 1) for v in (0, 1, 2)]
        self.assertEqual(deeds(schedule, (1, False, None, ((), ()))), [("begin",), *puts])
        cuts = [("cut", 0), ("cut", 1)]
        kept = [("put", 0, 0), ("put", 0, 2), ("put", 1, 0), ("put", 1, 2)]
        self.assertEqual(deeds(schedule, (1, False, 1, ((), ()))), [("begin",), *cuts, *kept])
        self.assertEqual(deeds(schedule, (2, True, 1, ((), ()))), [("visit",), *cuts, *kept])
        self.assertEqual(deeds(schedule, (2, False, 1, ((), ()))), [*cuts, *kept])

    def test_numbers_of_two_digits_are_ordered_as_numbers(self):
        schedule = Schedule(1, ("absent",), (("edition", ("write",)),) * 12)
        found = deeds(schedule, (11, False, 0, ((),)), lag=4)
        self.assertEqual(found, [("begin",)] + [("cut", n) for n in range(7, 12)])
        found = deeds(schedule, (12, False, None, ((),)), lag=4)
        self.assertEqual(found, [("put", n, 0) for n in range(8, 13)])

    def test_no_step_and_no_deed(self):
        self.assertEqual(deeds(Schedule(1, ("write",), ()), (0, False, None, ((),))), [("put", 0, 0)])
        self.assertEqual(deeds(Schedule(1, ("write",), ()), (0, False, 0, ((),))), [("cut", 0)])

    def test_the_window_tells_who_does_them(self):
        steps = (("edition", ("write",)), ("edition", ("public",)))
        schedule = Schedule(1, ("absent",), steps)
        for lag, numbers in ((0, [2]), (1, [1, 2]), (2, [0, 1, 2]), (4, [0, 1, 2])):
            self.assertEqual(deeds(schedule, (2, False, 0, ((),)), lag=lag), [("cut", n) for n in numbers])

    def test_the_list_is_new(self):
        deeds(SHORT, DUE).clear()
        self.assertEqual(len(deeds(SHORT, DUE)), 5)

    def test_wrong_arguments(self):
        wrongs = [(0, NO_SCHEDULES, BadSchedule, None), ("lag", NO_LAGS, BadLag), (1, NO_STATES, BadState)]
        check_door(self, deeds, [SHORT, DUE], wrongs, "lag")

    def test_no_step_is_due_before_one_has_begun(self):
        state = (0, True, None, ((),))
        for steps in ((), (("fill", 0),), (("edition", ("write",)), ("sweep", 0))):
            schedule = Schedule(1, ("write",), steps)
            for door in (deeds, broken):
                refused(self, lambda: door(schedule, state), BadState)
            refused(self, lambda: after(schedule, state, ("visit",)), BadState)

    def test_states_of_two_indexes(self):
        schedule = Schedule(1, ("absent", "write"), ())
        refused(self, lambda: deeds(schedule, (0, False, None, ((),))), BadState)
        refused(self, lambda: deeds(schedule, (0, False, None, ((), (1,)))), BadState)
        refused(self, lambda: deeds(schedule, (0, False, 1, ((), ()))), BadState)
        self.assertEqual(deeds(schedule, (0, False, None, ((0,), (0,)))), [("put", 0, 0)])


class After(unittest.TestCase):
    def test_begin(self):
        schedule = Schedule(2, ("absent",), (("edition", ("write",)), ("fill", 0), ("sweep", 0)))
        self.assertEqual(after(schedule, (0, False, 1, ((0,),)), ("begin",)), (1, False, 1, ((0,),)))
        self.assertEqual(after(schedule, (1, False, None, ((1,),)), ("begin",)), (2, True, None, ((1,),)))
        self.assertEqual(after(schedule, (2, False, 0, ((),)), ("begin",)), (3, True, 0, ((),)))
        refused(self, lambda: after(schedule, (2, True, 0, ((),)), ("begin",)), BadDeed)
        refused(self, lambda: after(schedule, (3, False, 0, ((),)), ("begin",)), BadDeed)

    def test_visit_by_a_fill(self):
        schedule = Schedule(3, ("absent", "absent"), (("fill", 1),))
        for value, held, behind in ((1, (), (1,)), (1, (0, 2), (0, 1, 2)), (1, (1,), (1,)), (None, (0, 2), (0, 2))):
            found = after(schedule, (1, True, value, ((0,), held)), ("visit",))
            self.assertEqual(found, (1, False, value, ((0,), behind)))

    def test_visit_by_a_sweep(self):
        schedule = Schedule(3, ("public", "public"), (("sweep", 0),))
        for value, held in ((1, ()), (1, (0, 1, 2)), (None, (2,))):
            found = after(schedule, (1, True, value, (held, (0, 1))), ("visit",))
            self.assertEqual(found, (1, False, value, ((), (0, 1))))

    def test_cut_by_each_word(self):
        for word, behind in (("absent", (0, 1)), ("delete", (0,)), ("write", (0,)), ("public", (0,))):
            schedule = Schedule(2, (word, "absent"), ())
            found = after(schedule, (0, False, 1, ((0, 1), (1,))), ("cut", 0))
            self.assertEqual(found, (0, False, None, (behind, (1,))))
            self.assertEqual(after(schedule, (0, False, 1, ((0,), ())), ("cut", 0)), (0, False, None, ((0,), ())))

    def test_put_by_each_word(self):
        for word, behind in (("absent", (0, 1)), ("delete", (0,)), ("write", (0, 2)), ("public", (0, 2))):
            schedule = Schedule(3, (word, "absent"), ())
            found = after(schedule, (0, False, 1, ((0, 1), (1,))), ("put", 0, 2))
            self.assertEqual(found, (0, False, 2, (behind, (1,))))

    def test_put_where_there_is_no_row_or_the_entry_is_there(self):
        for word, behind in (("absent", (0, 1)), ("delete", (0, 1)), ("write", (0, 1)), ("public", (0, 1))):
            schedule = Schedule(2, (word,), ())
            self.assertEqual(after(schedule, (0, False, None, ((0, 1),)), ("put", 0, 1)), (0, False, 1, (behind,)))
        self.assertEqual(after(Schedule(2, ("write",), ()), (0, False, None, ((),)), ("put", 0, 1))[3], ((1,),))
        self.assertEqual(after(Schedule(2, ("delete",), ()), (0, False, None, ((),)), ("put", 0, 1))[3], ((),))

    def test_the_edition_of_the_server_tells(self):
        schedule = Schedule(1, ("absent",), (("edition", ("delete",)), ("edition", ("write",))))
        for number, behind in ((0, ((),)), (1, ((),)), (2, ((0,),))):
            self.assertEqual(after(schedule, (2, False, None, ((),)), ("put", number, 0), lag=2)[3], behind)

    def test_what_is_due_stays_due(self):
        self.assertEqual(after(SHORT, DUE, ("cut", 1)), (2, True, None, ((0,),)))
        self.assertEqual(after(SHORT, DUE, ("put", 0, 0)), (2, True, 0, ((0,),)))

    def test_the_window_tells_who_can(self):
        state = (3, False, 0, ((),))
        refused(self, lambda: after(SHORT, state, ("cut", 0)), BadDeed)
        refused(self, lambda: after(SHORT, state, ("cut", 1), lag=0), BadDeed)
        self.assertEqual(after(SHORT, state, ("cut", 0), lag=2), (3, False, None, ((),)))
        self.assertEqual(after(SHORT, state, ("cut", 0), lag=4), (3, False, None, ((),)))

    def test_wrong_arguments(self):
        wrongs = [
            (0, NO_SCHEDULES, BadSchedule, None), ("lag", NO_LAGS, BadLag), (1, NO_STATES, BadState),
            (2, NO_DEEDS, BadDeed),
        ]
        check_door(self, after, [SHORT, DUE, ("visit",)], wrongs, "lag")


class AgainstTheModel(unittest.TestCase):
    """All that can be thought of, for many schedules, by the words of the document."""

    def test_deeds_after_and_broken(self):
        for width, first, steps in small_schedules():
            schedule = Schedule(width, first, steps)
            for lag, state in itertools.product((0, 1, 4), model.thinkable_states(width, first, steps)):
                window = model.window_of(first, steps, state[0], lag)
                behind = {}
                for deed in model.thinkable_deeds(width, steps):
                    behind[deed] = model.tried(first, steps, state, deed, window)
                told = model.as_told(state)
                can = [deed for deed in behind if behind[deed] is not None]
                self.assertEqual(deeds(schedule, told, lag=lag), can)
                for deed in can:
                    self.assertEqual(after(schedule, told, deed, lag=lag), model.as_told(behind[deed]))
                self.assertEqual(broken(schedule, told, lag=lag), model.wishes_broken(first, steps, state, window))

    def test_all_states(self):
        for width, first, steps in small_schedules():
            for lag in (0, 1, 2):
                found = all_states(Schedule(width, first, steps), lag=lag)
                told = [model.as_told(state) for state in model.states_that_come_about(width, first, steps, lag)]
                self.assertEqual(len(found), len(told))
                self.assertEqual(set(found), set(told))


class Broken(unittest.TestCase):
    def test_left_only_where_all_is_over(self):
        schedule = Schedule(2, ("write",), (("edition", ("absent",)), ("sweep", 0)))
        self.assertEqual(broken(schedule, (2, False, None, ((1,),)), lag=0), ["left"])
        self.assertEqual(broken(schedule, (2, False, 1, ((1,),)), lag=0), ["left"])
        self.assertEqual(broken(schedule, (2, False, 1, ((),)), lag=0), [])
        self.assertEqual(broken(schedule, (2, True, None, ((1,),)), lag=0), [])
        self.assertEqual(broken(schedule, (1, False, None, ((1,),)), lag=0), [])

    def test_left_only_if_absent_in_the_whole_window(self):
        schedule = Schedule(1, ("write",), (("edition", ("absent",)),))
        self.assertEqual(broken(schedule, (1, False, None, ((0,),)), lag=0), ["left"])
        self.assertEqual(broken(schedule, (1, False, None, ((0,),)), lag=1), [])

    def test_missed_and_stray_if_public_anywhere_in_the_window(self):
        schedule = Schedule(2, ("public",), (("edition", ("absent",)), ("edition", ("absent",))))
        cases = ((0, 0, True), (1, 0, False), (1, 1, True), (2, 1, False), (2, 2, True), (2, 4, True))
        for begun, lag, public in cases:
            for value, held, told in (
                (0, (), ["missed"]), (0, (0,), []), (0, (1,), ["missed", "stray"]), (0, (0, 1), ["stray"]),
                (None, (), []), (None, (0,), ["stray"]),
            ):
                found = broken(schedule, (begun, False, value, (held,)), lag=lag)
                self.assertEqual([wish for wish in found if wish != "left"], told if public else [])

    def test_only_a_public_index_is_looked_at(self):
        for word in ("absent", "delete", "write"):
            schedule = Schedule(2, (word,), (("fill", 0),))
            self.assertEqual(broken(schedule, (0, False, 0, ((1,),))), [])

    def test_wishes_of_two_indexes_are_told_once_and_ascending(self):
        schedule = Schedule(2, ("public", "absent"), ())
        self.assertEqual(broken(schedule, (0, False, 0, ((1,), (0,)))), ["left", "missed", "stray"])
        schedule = Schedule(2, ("public", "public"), ())
        self.assertEqual(broken(schedule, (0, False, 0, ((1,), (1,)))), ["missed", "stray"])
        self.assertEqual(broken(schedule, (0, False, 0, ((0,), ()))), ["missed"])
        self.assertEqual(broken(schedule, (0, False, 0, ((0, 1), (0,)))), ["stray"])

    def test_a_state_that_is_due_can_break_a_wish(self):
        schedule = Schedule(1, ("public",), (("fill", 0),))
        self.assertEqual(broken(schedule, (1, True, 0, ((),))), ["missed"])

    def test_the_list_is_new(self):
        schedule = Schedule(1, ("public",), ())
        broken(schedule, (0, False, 0, ((),))).clear()
        self.assertEqual(broken(schedule, (0, False, 0, ((),))), ["missed"])

    def test_wrong_arguments(self):
        wrongs = [(0, NO_SCHEDULES, BadSchedule, None), ("lag", NO_LAGS, BadLag), (1, NO_STATES, BadState)]
        check_door(self, broken, [SHORT, DUE], wrongs, "lag")


class Woven(unittest.TestCase):
    HISTORY = [("put", 0, 1), ("begin",), ("begin",), ("put", 1, 0), ("visit",), ("begin",), ("cut", 2)]
    STATES = [
        (0, False, 1, ((),)), (1, False, 1, ((),)), (2, True, 1, ((),)), (2, True, 0, ((0,),)),
        (2, False, 0, ((0,),)), (3, False, 0, ((0,),)), (3, False, None, ((),)),
    ]

    def test_the_state_behind_each_deed(self):
        for history in (self.HISTORY, tuple(self.HISTORY)):
            self.assertEqual(woven(SHORT, history), self.STATES)

    def test_no_deed(self):
        self.assertEqual(woven(SHORT, []), [])
        self.assertEqual(woven(SHORT, ()), [])

    def test_the_history_is_not_modified(self):
        history = list(self.HISTORY)
        found = woven(SHORT, history)
        found.clear()
        self.assertEqual(history, self.HISTORY)
        self.assertEqual(woven(SHORT, history), self.STATES)

    def test_the_lag_tells_who_can(self):
        history = [("begin",), ("put", 0, 0)]
        self.assertEqual(woven(SHORT, history)[-1], (1, False, 0, ((),)))
        refused(self, lambda: woven(SHORT, history, lag=0), BadDeeds, 1)

    def test_the_first_item_that_cannot_be_done(self):
        strange = (None, ("visit", 0), ("cut", True), ["begin"], ("put", 9, 0), "begin", [], {}, Agreeable())
        for at in range(len(self.HISTORY) + 1):
            for wrong in strange:
                history = self.HISTORY[:at] + [wrong] + self.HISTORY[at:] + [None]
                refused(self, lambda: woven(SHORT, history), BadDeeds, at)

    def test_deeds_that_can_be_done_at_another_time(self):
        refused(self, lambda: woven(SHORT, [("visit",)]), BadDeeds, 0)
        refused(self, lambda: woven(SHORT, [("cut", 0)]), BadDeeds, 0)
        refused(self, lambda: woven(SHORT, [("put", 0, 0), ("put", 0, 0)]), BadDeeds, 1)
        refused(self, lambda: woven(SHORT, [("begin",), ("begin",), ("begin",)]), BadDeeds, 2)
        refused(self, lambda: woven(SHORT.with_steps(()), [("begin",)]), BadDeeds, 0)

    def test_wrong_arguments(self):
        wrongs = [
            (0, NO_SCHEDULES, BadSchedule, None), ("lag", NO_LAGS, BadLag),
            (1, (None, 0, True, "", "begin", b"", {}, {("begin",): 1}, set(), SHORT, Agreeable(), len), BadDeeds, None),
        ]
        check_door(self, woven, [SHORT, [("begin",)]], wrongs, "lag")
        wrongs[2] = (1, ([None], ("begin",), [[]], [()], [("cut", 0)]), BadDeeds, 0)
        check_door(self, woven, [SHORT, [("begin",)]], wrongs, "lag")


class AllStates(unittest.TestCase):
    def test_by_hand(self):
        schedule = Schedule(1, ("absent",), (("fill", 0),))
        self.assertEqual(sorted(all_states(schedule), key=str), sorted([
            (0, False, None, ((),)), (0, False, 0, ((),)), (1, True, None, ((),)), (1, True, 0, ((),)),
            (1, False, None, ((),)), (1, False, 0, ((0,),)), (1, False, None, ((0,),)), (1, False, 0, ((),)),
        ], key=str))

    def test_each_once_and_the_first_among_them(self):
        found = all_states(THOUSAND, lag=4)
        self.assertEqual(len(found), len(set(found)))
        self.assertIn(first_state(THOUSAND), found)

    def test_a_thousand_and_more(self):
        self.assertEqual(len(all_states(THOUSAND, lag=4)), 1000)
        self.assertEqual(len(model.states_that_come_about(3, THOUSAND.first, THOUSAND.steps, 4)), 1000)
        refused(self, lambda: all_states(ONE_MORE, lag=4), TooLarge)
        self.assertEqual(len(model.states_that_come_about(3, ONE_MORE.first, ONE_MORE.steps, 4)), 1001)
        refused(self, lambda: all_states(THOUSAND.with_steps(THOUSAND.steps + (("sweep", 0),)), lag=4), TooLarge)

    def test_only_all_states_is_too_large(self):
        self.assertEqual(len(woven(ONE_MORE, [("begin",), ("visit",)] * 2, lag=4)), 4)
        self.assertEqual(broken(ONE_MORE, first_state(ONE_MORE), lag=4), [])
        self.assertEqual(after(ONE_MORE, first_state(ONE_MORE), ("begin",), lag=4)[0], 1)

    def test_the_lag_is_1_if_it_is_left_out(self):
        found = [len(all_states(SHORT, lag=lag)) for lag in range(5)]
        self.assertEqual(len(all_states(SHORT)), found[1])
        self.assertNotEqual(found[0], found[1])

    def test_the_list_is_new(self):
        found = all_states(SHORT)
        many = len(found)
        found.clear()
        self.assertEqual(len(all_states(SHORT)), many)

    def test_wrong_arguments(self):
        wrongs = [(0, NO_SCHEDULES, BadSchedule, None), ("lag", NO_LAGS, BadLag)]
        check_door(self, all_states, [SHORT], wrongs, "lag")
        refused(self, lambda: all_states(ONE_MORE, lag=5), BadLag)
        refused(self, lambda: all_states(None, lag=5), BadSchedule, None)

    def test_the_lag_is_a_keyword(self):
        doors = ((deeds, [DUE]), (broken, [DUE]), (after, [DUE, ("visit",)]), (woven, [[]]), (all_states, []))
        for door, given in doors:
            self.assertRaises(TypeError, door, SHORT, *given, 1)


if __name__ == "__main__":
    unittest.main()
