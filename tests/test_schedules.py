"""Points 2 and 3: schedules, their editions, and windows."""

import itertools
import unittest

from editionlag.errors import BadEdition, BadLag, BadSchedule, BadState
from editionlag.schedules import Schedule, window
from tests import model
from tests.wrong import NO_LAGS, NO_SCHEDULES, SHORT, STRANGE, Agreeable, check_door, refused

WORDS = ("absent", "delete", "public", "write")
TWELVE = tuple([("fill", 0), ("sweep", 1), ("edition", ("write", "public"))] * 4)


class Parts(unittest.TestCase):
    def test_attributes(self):
        for width in (1, 2, 3):
            schedule = Schedule(width, ("absent", "write"), TWELVE)
            self.assertEqual(schedule.width, width)
            self.assertEqual(schedule.first, ("absent", "write"))
            self.assertEqual(schedule.steps, TWELVE)

    def test_attributes_by_keyword(self):
        self.assertEqual(Schedule(width=1, first=("public",), steps=()), Schedule(1, ("public",), ()))

    def test_every_word_of_an_edition(self):
        for many in (1, 2):
            for edition in itertools.product(WORDS, repeat=many):
                schedule = Schedule(1, edition, (("edition", edition),))
                self.assertEqual(schedule.editions(), [edition, edition])

    def test_every_index_of_a_fill_and_a_sweep(self):
        for word in ("fill", "sweep"):
            self.assertEqual(Schedule(1, ("write",), ((word, 0),)).steps, ((word, 0),))
            self.assertEqual(Schedule(1, ("write", "write"), ((word, 1),)).steps, ((word, 1),))
            refused(self, lambda: Schedule(1, ("write",), ((word, 1),)), BadSchedule, "steps")
            refused(self, lambda: Schedule(1, ("write", "write"), ((word, 2),)), BadSchedule, "steps")

    def test_no_step_twelve_steps_and_thirteen(self):
        self.assertEqual(len(Schedule(1, ("absent", "absent"), ())), 0)
        self.assertEqual(len(Schedule(1, ("absent", "absent"), TWELVE)), 12)
        for last in (("fill", 0), ("edition", ("write", "write"))):
            refused(self, lambda: Schedule(1, ("absent", "absent"), TWELVE + (last,)), BadSchedule, "steps")

    def test_wrong_parts_alone_and_two_at_once(self):
        pairs = STRANGE + (None, 0, 1)
        firsts = pairs + (
            (), ("write", "write", "write"), ["write"], ("Write",), ("write ",), ("fill",), (1,), (None,),
            (("write",),), ("write", True), (b"write",), ("",), "w", (["write"],), (Agreeable(),),
        )
        steps = pairs + (
            [], [("fill", 0)], ("fill", 0), (["fill", 0],), (("fill",),), (("fill", 0, 0),), (("fill", True),),
            (("fill", False),), (("fill", "0"),), (("fill", -1),), (("fill", 2),), (("fill", None),),
            (("Fill", 0),), (("visit", 0),), ((b"fill", 0),), ((0, "fill"),), ((["fill"], 0),), (((), 0),),
            (("edition", "write"),), (("edition", ("write",)),), (("edition", ("write",) * 3),),
            (("edition", ["write", "write"]),), (("edition", ("write", "index")),), (("edition", ()),),
            (("edition", ("write", None)),), (("edition", 0),), (("sweep", ("write", "write")),), (None,),
            (("fill", 0), ("sweep", 5)), (("fill", Agreeable()),), ((Agreeable(), 0),), (Agreeable(),),
            (("edition", Agreeable()),), (("edition", (Agreeable(), "write")),), {("fill", 0): 1},
        )
        widths = STRANGE + (None, 0, 4, (1,), "1")
        told = zip((widths, firsts, steps), ("width", "first", "steps"))
        wrongs = [(place, values, BadSchedule, part) for place, (values, part) in enumerate(told)]
        check_door(self, Schedule, [1, ("absent", "write"), TWELVE], wrongs)

    def test_all_three_wrong(self):
        refused(self, lambda: Schedule(0, (), None), BadSchedule, "width")

    def test_parts_cannot_be_assigned(self):
        for name in ("width", "first", "steps"):
            with self.assertRaises(AttributeError):
                setattr(SHORT, name, getattr(SHORT, name))


class Editions(unittest.TestCase):
    def test_the_first_and_those_of_the_steps(self):
        steps = (("fill", 0), ("edition", ("write",)), ("sweep", 0), ("edition", ("write",)), ("edition", ("public",)))
        schedule = Schedule(3, ("delete",), steps)
        self.assertEqual(schedule.editions(), [("delete",), ("write",), ("write",), ("public",)])
        self.assertEqual([schedule[number] for number in range(4)], schedule.editions())
        self.assertEqual(len(schedule), 5)

    def test_no_steps(self):
        schedule = Schedule(1, ("public", "absent"), ())
        self.assertEqual(schedule.editions(), [("public", "absent")])
        self.assertEqual(schedule[0], ("public", "absent"))

    def test_the_list_is_new(self):
        found = SHORT.editions()
        found.append(("delete",))
        found[0] = None
        self.assertEqual(SHORT.editions(), [("absent",), ("write",), ("public",)])

    def test_not_the_number_of_an_edition(self):
        for at in STRANGE + (None, 3, (0,), slice(0, 1)):
            with self.subTest(at=at):
                refused(self, lambda: SHORT[at], BadEdition)
        refused(self, lambda: Schedule(1, ("write",), (("fill", 0),))[1], BadEdition)

    def test_it_is_not_iterated_over(self):
        for schedule in (SHORT, Schedule(1, ("write",), ())):
            self.assertRaises(TypeError, iter, schedule)
            self.assertRaises(TypeError, list, schedule)
            with self.assertRaises(TypeError):
                for _ in schedule:
                    pass


class WithSteps(unittest.TestCase):
    def test_other_steps(self):
        other = SHORT.with_steps((("sweep", 0), ("edition", ("delete",))))
        self.assertEqual(other, Schedule(2, ("absent",), (("sweep", 0), ("edition", ("delete",)))))
        self.assertEqual(other.editions(), [("absent",), ("delete",)])
        self.assertEqual(len(SHORT), 3)
        self.assertEqual(SHORT.with_steps(()).steps, ())
        self.assertEqual(SHORT.with_steps(steps=SHORT.steps), SHORT)

    def test_wrong_steps(self):
        for steps in STRANGE + (None, [], (("fill", 1),), (("edition", ("write", "write")),), (("fill", 0),) * 13):
            with self.subTest(steps=steps):
                refused(self, lambda: SHORT.with_steps(steps), BadSchedule, "steps")


class Equality(unittest.TestCase):
    def test_equal_if_all_three_are(self):
        same = Schedule(2, ("absent",), (("edition", ("write",)), ("fill", 0), ("edition", ("public",))))
        self.assertTrue(SHORT == same)
        self.assertFalse(SHORT != same)

    def test_not_equal_if_one_differs(self):
        for other in (
            Schedule(1, SHORT.first, SHORT.steps),
            Schedule(2, ("delete",), SHORT.steps),
            Schedule(2, SHORT.first, SHORT.steps[:2]),
            Schedule(2, SHORT.first, (("edition", ("write",)), ("sweep", 0), ("edition", ("public",)))),
        ):
            self.assertFalse(SHORT == other)
            self.assertTrue(SHORT != other)

    def test_nothing_else_is_equal(self):
        for other in (None, 2, (2, SHORT.first, SHORT.steps), "", [], Agreeable(), BadLag(), Schedule):
            self.assertFalse(SHORT == other)
            self.assertTrue(SHORT != other)


class Windows(unittest.TestCase):
    STEPS = (("edition", ("delete",)), ("fill", 0), ("edition", ("write",)), ("sweep", 0), ("edition", ("public",)))

    def told(self, lag):
        schedule = Schedule(1, ("absent",), self.STEPS)
        return [window(schedule, begun, lag=lag) for begun in range(6)]

    def test_the_last_editions(self):
        self.assertEqual(self.told(0), [[0], [1], [1], [2], [2], [3]])
        self.assertEqual(self.told(1), [[0], [0, 1], [0, 1], [1, 2], [1, 2], [2, 3]])
        self.assertEqual(self.told(2), [[0], [0, 1], [0, 1], [0, 1, 2], [0, 1, 2], [1, 2, 3]])

    def test_all_if_there_are_fewer(self):
        for lag in (3, 4):
            self.assertEqual(self.told(lag), [[0], [0, 1], [0, 1], [0, 1, 2], [0, 1, 2], [0, 1, 2, 3]])

    def test_lag_4_over_thirteen_editions(self):
        schedule = Schedule(1, ("absent",), (("edition", ("write",)),) * 12)
        self.assertEqual(window(schedule, 12, lag=4), [8, 9, 10, 11, 12])
        self.assertEqual(window(schedule, 12, lag=0), [12])
        self.assertEqual(window(schedule, 4, lag=4), [0, 1, 2, 3, 4])
        self.assertEqual(window(schedule, 5, lag=4), [1, 2, 3, 4, 5])

    def test_the_same_edition_twice_has_two_numbers(self):
        self.assertEqual(window(Schedule(1, ("write",), (("edition", ("write",)),)), 1), [0, 1])

    def test_the_lag_is_1_if_it_is_left_out(self):
        schedule = Schedule(1, ("absent",), self.STEPS)
        self.assertEqual([window(schedule, begun) for begun in range(6)], self.told(1))

    def test_against_the_words_of_the_document(self):
        kinds = (("edition", ("write",)), ("fill", 0))
        for many in range(6):
            for steps in itertools.product(kinds, repeat=many):
                schedule = Schedule(1, ("absent",), steps)
                for lag, begun in itertools.product(range(5), range(many + 1)):
                    told = model.window_of(("absent",), steps, begun, lag)
                    self.assertEqual(window(schedule, begun, lag=lag), told)

    def test_the_list_is_new(self):
        window(SHORT, 3).append(9)
        self.assertEqual(window(SHORT, 3), [1, 2])

    def test_the_lag_is_a_keyword(self):
        self.assertRaises(TypeError, window, SHORT, 0, 1)

    def test_wrong_arguments(self):
        wrongs = [
            (0, NO_SCHEDULES, BadSchedule, None),
            ("lag", NO_LAGS, BadLag),
            (1, STRANGE + (None, 4, (0,), "0", SHORT), BadState),
        ]
        check_door(self, window, [SHORT, 3], wrongs, "lag")


if __name__ == "__main__":
    unittest.main()
