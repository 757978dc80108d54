"""Point 12: live tables, their journals, undoing, branches and trials."""

import random
import unittest

from editionlag.errors import (
    BadDeed, BadDeeds, BadIndex, BadLag, BadRows, BadSchedule, BadValue, LagError, NothingDone, NotPublic,
)
from editionlag.live import LiveTable
from editionlag.schedules import Schedule, window
from editionlag.states import broken, deeds, first_state
from tests import model
from tests.test_judging import some_schedules
from tests.wrong import NO_LAGS, NO_SCHEDULES, SHORT, STRANGE, Agreeable, check_door, refused

PUTS = [("put", 0, 0, 0), ("begin",), ("begin",), ("visit", 0), ("visit", 1), ("begin",)]
ORDER = ("begin", "visit", "cut", "put")
# The index 0 is public in its elder edition, and the index 1 in its newer one.
CHANGED = Schedule(3, ("public", "write"), (
    ("edition", ("write", "public")), ("sweep", 0), ("edition", ("absent", "public")), ("fill", 1),
))
NO_DEEDS = STRANGE + (
    None, 0, (), "begin", ["begin"], ("begin", 0), ("Begin",), ("visit",), ("visit", 0), ("visit", 1, 0), ("cut", 0),
    ("cut", 0, 7), ("cut", 2, 0), ("cut", 1, 0), ("put", 0), ("put", 0, 0), ("put", 0, 0, 2), ("put", 2, 0, 0),
    ("put", -1, 0, 0), ("put", 0, 0, -1), ("put", False, 0, 0), ("put", 0, True, 0), ("put", 0, 0, False),
    ("put", 0, 0, None), ("put", None, 0, 0), ("put", "0", 0, 0), ("put", 0, 0, 0, 0), (Agreeable(),), (None,),
    ("put", Agreeable(), 0, 0), (("begin",),), ("put", 0, 0, [0]), ["put", 0, 0, 0], ("fill", 0), ("begin", False),
)


class Replayed:
    """A table that has nothing but its journal, and does all of it once more whenever it is asked."""

    def __init__(self, schedule, rows, lag, journal=()):
        self.schedule, self.rows, self.lag = schedule, rows, lag
        self.journal = list(journal)

    def behind(self, states, deed):
        """The states behind a deed, or None if it cannot be done."""
        parts = self.schedule.first, self.schedule.steps
        seen = model.window_of(*parts, states[0][0], self.lag)
        if deed[0] == "begin":
            found = [model.tried(*parts, state, deed, seen) for state in states]
            return None if None in found else found
        row, rest = deed[1], (deed[0],) + deed[2:]
        here = model.tried(*parts, states[row], rest, seen)
        return None if here is None else states[:row] + [here] + states[row + 1:]

    def states(self):
        empty = tuple(frozenset() for _ in self.schedule.first)
        found = [(0, False, None, empty)] * self.rows
        for deed in self.journal:
            found = self.behind(found, deed)
        return found

    def now(self):
        return [model.as_told(state) for state in self.states()]

    def can(self):
        thinkable = model.thinkable_deeds(self.schedule.width, self.schedule.steps)
        found = [("begin",)]
        for deed in thinkable:
            if deed != ("begin",):
                found += [(deed[0], row) + deed[1:] for row in range(self.rows)]
        states = self.states()
        found = [deed for deed in found if self.behind(states, deed) is not None]
        return sorted(found, key=lambda deed: (ORDER.index(deed[0]), deed))

    def broken(self):
        found = []
        for row, state in enumerate(self.states()):
            seen = model.window_of(self.schedule.first, self.schedule.steps, state[0], self.lag)
            told = model.wishes_broken(self.schedule.first, self.schedule.steps, state, seen)
            found += [(row, wish) for wish in told]
        return found

    def rows_by(self, index, value):
        """The rows, or None if no server looks them up by the index."""
        states = self.states()
        editions = model.editions_of(self.schedule.first, self.schedule.steps)
        seen = model.window_of(self.schedule.first, self.schedule.steps, states[0][0], self.lag)
        if all(editions[number][index] != "public" for number in seen):
            return None
        return [row for row in range(self.rows) if value in states[row][3][index]]


def all_of(table):
    """Everything that a table tells."""
    return table.now, table.journal, len(table), table.can(), table.broken()


def two_rows():
    return LiveTable(SHORT, 2)


def done(table, history):
    for deed in history:
        table.do(deed)
    return table


class Deeds(unittest.TestCase):
    def test_at_first(self):
        for schedule in (SHORT, CHANGED):
            for rows in (1, 2, 3):
                table = LiveTable(schedule, rows)
                self.assertEqual(table.now, [first_state(schedule)] * rows)
                self.assertEqual((table.journal, len(table), table.broken()), ([], 0, []))
        self.assertEqual(two_rows().can(), [
            ("begin",), ("put", 0, 0, 0), ("put", 0, 0, 1), ("put", 1, 0, 0), ("put", 1, 0, 1),
        ])

    def test_by_hand(self):
        table = two_rows()
        empty = (0, False, None, ((),))
        self.assertEqual(table.do(("put", 1, 0, 1)), [empty, (0, False, 1, ((),))])
        self.assertEqual(table.do(("begin",)), [(1, False, None, ((),)), (1, False, 1, ((),))])
        self.assertEqual(table.do(("put", 0, 1, 0)), [(1, False, 0, ((0,),)), (1, False, 1, ((),))])
        self.assertEqual(table.do(("begin",)), [(2, True, 0, ((0,),)), (2, True, 1, ((),))])
        self.assertEqual(table.can(), [
            ("visit", 0), ("visit", 1), ("cut", 0, 0), ("cut", 0, 1), ("cut", 1, 0), ("cut", 1, 1),
            ("put", 0, 0, 1), ("put", 0, 1, 1), ("put", 1, 0, 0), ("put", 1, 1, 0),
        ])
        self.assertEqual(table.do(("visit", 1)), [(2, True, 0, ((0,),)), (2, False, 1, ((1,),))])
        self.assertEqual(table.do(("cut", 0, 0)), [(2, True, None, ((0,),)), (2, False, 1, ((1,),))])
        self.assertEqual(table.journal, [
            ("put", 1, 0, 1), ("begin",), ("put", 0, 1, 0), ("begin",), ("visit", 1), ("cut", 0, 0),
        ])
        self.assertEqual(len(table), 6)

    def test_a_due_row_keeps_the_next_step_from_beginning(self):
        table = LiveTable(Schedule(1, ("write",), (("fill", 0), ("sweep", 0), ("edition", ("write",)))), 3)
        table.do(("begin",))
        for row in (2, 0, 1):
            self.assertNotIn(("begin",), table.can())
            refused(self, lambda: table.do(("begin",)), BadDeed)
            refused(self, lambda: table.tried([("begin",)]), BadDeeds, 0)
            table.do(("visit", row))
            refused(self, lambda: table.do(("visit", row)), BadDeed)
        self.assertEqual(table.can()[0], ("begin",))
        self.assertEqual([state[1] for state in table.do(("begin",))], [True, True, True])

    def test_when_all_steps_have_begun(self):
        table = done(two_rows(), PUTS)
        self.assertEqual(table.now, [(3, False, 0, ((0,),)), (3, False, None, ((),))])
        self.assertEqual(table.can(), [
            ("cut", 0, 1), ("cut", 0, 2), ("put", 0, 1, 1), ("put", 0, 2, 1), ("put", 1, 1, 0), ("put", 1, 1, 1),
            ("put", 1, 2, 0), ("put", 1, 2, 1),
        ])
        refused(self, lambda: table.do(("begin",)), BadDeed)
        # Servers go by the editions 1 and 2 alone.
        refused(self, lambda: table.do(("cut", 0, 0)), BadDeed)

    def test_one_row_as_its_state(self):
        chance = random.Random(12)
        for schedule in some_schedules(20):
            table = LiveTable(schedule, 1, lag=2)
            for _ in range(12):
                self.assertEqual(table.broken(), [(0, wish) for wish in broken(schedule, table.now[0], lag=2)])
                told = deeds(schedule, table.now[0], lag=2)
                self.assertEqual(table.can(), [deed[:1] + (() if deed == ("begin",) else (0,)) + deed[1:] for deed in told])
                table.do(chance.choice(table.can()))

    def test_lags(self):
        for lag in range(5):
            table = LiveTable(CHANGED, 1, lag=lag)
            done(table, [("begin",), ("begin",), ("visit", 0), ("begin",)])
            seen = sorted({deed[2] for deed in table.can() if deed[0] == "put"})
            self.assertEqual(seen, window(CHANGED, 3, lag=lag))
        self.assertEqual(all_of(LiveTable(CHANGED, 1)), all_of(LiveTable(CHANGED, 1, lag=1)))
        self.assertEqual(done(LiveTable(SHORT, 2), PUTS).can(), done(LiveTable(SHORT, 2, lag=1), PUTS).can())

    def test_numbers_of_two_digits(self):
        many = Schedule(1, ("write",), (("edition", ("write",)),) * 12)
        table = done(LiveTable(many, 2, lag=4), [("begin",)] * 11)
        self.assertEqual(table.can(), [("begin",)] + [("put", row, n, 0) for row in (0, 1) for n in (7, 8, 9, 10, 11)])


class Looking(unittest.TestCase):
    def test_rows_by(self):
        table = LiveTable(CHANGED, 3)
        done(table, [("put", 0, 0, 1), ("put", 2, 0, 1), ("put", 1, 0, 2)])
        self.assertEqual([table.rows_by(0, value) for value in range(3)], [[], [0, 2], [1]])
        refused(self, lambda: table.rows_by(1, 1), NotPublic)
        table.do(("begin",))
        # The elder edition of the window finds by the index 0, the newer one by the index 1.
        self.assertEqual([table.rows_by(index, 1) for index in (0, 1)], [[0, 2], [0, 2]])
        done(table, [("begin",), ("visit", 0), ("visit", 1)])
        self.assertEqual([table.rows_by(index, 1) for index in (0, 1)], [[2], [0, 2]])
        done(table, [("visit", 2), ("begin",)])
        refused(self, lambda: table.rows_by(0, 1), NotPublic)
        self.assertEqual(table.rows_by(1, 2), [1])

    def test_rows_that_are_gone_or_have_another_value(self):
        """A server finds what the entries tell it."""
        table = LiveTable(Schedule(2, ("public",), (("edition", ("absent",)),)), 2)
        done(table, [("put", 0, 0, 0), ("put", 1, 0, 0), ("begin",), ("put", 0, 1, 1), ("cut", 1, 1)])
        self.assertEqual([table.rows_by(0, value) for value in (0, 1)], [[0, 1], []])
        self.assertEqual(table.broken(), [(0, "missed"), (0, "stray"), (1, "stray")])

    def test_lag_0(self):
        table = LiveTable(CHANGED, 1, lag=0)
        refused(self, lambda: table.rows_by(1, 0), NotPublic)
        table.do(("begin",))
        refused(self, lambda: table.rows_by(0, 0), NotPublic)
        self.assertEqual(table.rows_by(1, 0), [])

    def test_broken_is_ascending(self):
        gone = Schedule(1, ("write", "public"), (("edition", ("absent", "absent")), ("edition", ("public", "absent"))))
        table = LiveTable(gone, 3, lag=0)
        done(table, [("put", 2, 0, 0), ("put", 0, 0, 0), ("begin",), ("cut", 2, 1), ("put", 1, 1, 0), ("begin",)])
        self.assertEqual(table.broken(), [(0, "left"), (1, "missed"), (2, "left"), (2, "stray")])

    def test_wrong_arguments(self):
        table = done(LiveTable(CHANGED, 2), [("put", 0, 0, 1), ("begin",)])
        wrongs = [
            (0, STRANGE + (None, 2, "0", (0,), [0]), BadIndex), (1, STRANGE + (None, 3, "0", (0,), [0]), BadValue),
        ]
        check_door(self, table.rows_by, [1, 1], wrongs)
        one = two_rows()
        refused(self, lambda: one.rows_by(1, 2), BadIndex)
        refused(self, lambda: one.rows_by(0, 2), BadValue)
        refused(self, lambda: one.rows_by(0, 1), NotPublic)


class Undoing(unittest.TestCase):
    def test_all_and_nothing(self):
        table = two_rows()
        refused(self, table.undo, NothingDone)
        told = [all_of(table)]
        for deed in PUTS:
            table.do(deed)
            told.append(all_of(table))
        for deed in PUTS[::-1]:
            self.assertEqual(all_of(table), told.pop())
            self.assertEqual(table.undo(), deed)
        self.assertEqual(all_of(table), told.pop())
        for _ in range(2):
            refused(self, table.undo, NothingDone)
        self.assertEqual(all_of(table), all_of(two_rows()))

    def test_something_else_is_done_then(self):
        table = done(two_rows(), PUTS)
        table.undo()
        table.do(("cut", 0, 0))
        self.assertEqual(table.journal, PUTS[:-1] + [("cut", 0, 0)])
        self.assertEqual(table.undo(), ("cut", 0, 0))
        self.assertEqual(table.undo(), ("visit", 1))

    def test_in_a_trial_no_more_than_was_done_in_it(self):
        table = done(two_rows(), PUTS[:2])
        with table.trial():
            refused(self, table.undo, NothingDone)
            table.do(("begin",))
            with table.trial():
                refused(self, table.undo, NothingDone)
                table.do(("visit", 0))
                self.assertEqual(table.undo(), ("visit", 0))
                refused(self, table.undo, NothingDone)
            self.assertEqual(table.undo(), ("begin",))
            refused(self, table.undo, NothingDone)
            self.assertEqual(table.journal, PUTS[:2])
        self.assertEqual([table.undo(), table.undo()], [("begin",), PUTS[0]])
        refused(self, table.undo, NothingDone)


class Branches(unittest.TestCase):
    def test_independent_and_the_same(self):
        table = done(two_rows(), PUTS[:4])
        other = table.branch()
        self.assertIs(other.__class__, LiveTable)
        self.assertEqual(all_of(other), all_of(table))
        before = all_of(table)
        other.do(("visit", 1))
        self.assertEqual(all_of(table), before)
        for _ in range(5):
            other.undo()
        self.assertEqual(all_of(table), before)
        refused(self, other.undo, NothingDone)
        before = all_of(other)
        table.do(("cut", 0, 0))
        table.undo()
        table.undo()
        self.assertEqual(all_of(other), before)

    def test_the_lag_and_the_rows_are_the_same(self):
        for lag in range(5):
            table = done(LiveTable(CHANGED, 3, lag=lag), [("begin",), ("begin",)])
            self.assertEqual(all_of(table.branch()), all_of(table))

    def test_of_a_trial(self):
        table = done(two_rows(), PUTS[:2])
        with table.trial():
            table.do(("begin",))
            other = table.branch()
            self.assertEqual(all_of(other), all_of(table))
        self.assertEqual(other.journal, PUTS[:3])
        self.assertEqual([other.undo() for _ in range(3)], PUTS[:3][::-1])
        refused(self, other.undo, NothingDone)
        self.assertEqual(table.journal, PUTS[:2])
        with table.trial():
            other = table.branch()
            self.assertEqual(other.undo(), PUTS[1])
            other.do(("begin",))
            refused(self, table.undo, NothingDone)
            with other.trial():
                refused(self, other.undo, NothingDone)
                self.assertEqual(table.journal, PUTS[:2])

    def test_of_a_branch(self):
        table = done(two_rows(), PUTS[:1])
        other = table.branch().branch()
        other.undo()
        self.assertEqual((table.journal, other.journal), (PUTS[:1], []))


class Trials(unittest.TestCase):
    def test_gives_the_table_itself_and_ends_as_it_began(self):
        table = done(two_rows(), PUTS[:3])
        before = all_of(table)
        with table.trial() as inner:
            self.assertIs(inner, table)
            done(inner, PUTS[3:])
            self.assertEqual((len(inner), inner.journal), (6, PUTS))
        self.assertEqual(all_of(table), before)
        with table.trial():
            pass
        self.assertEqual(all_of(table), before)
        table.do(("visit", 0))
        self.assertEqual(table.journal, PUTS[:4])

    def test_as_at_its_beginning_not_as_when_it_was_asked_for(self):
        table = two_rows()
        trial = table.trial()
        done(table, PUTS[:3])
        before = all_of(table)
        with trial:
            table.do(("visit", 0))
        self.assertEqual(all_of(table), before)

    def test_what_was_undone_in_it_is_there_again(self):
        table = done(two_rows(), PUTS[:3])
        before = all_of(table)
        with table.trial():
            table.do(("visit", 0))
            table.undo()
            table.do(("visit", 1))
            table.do(("cut", 0, 1))
        self.assertEqual(all_of(table), before)
        self.assertEqual([table.undo() for _ in range(3)], PUTS[:3][::-1])

    def test_within_one_another(self):
        table = done(two_rows(), PUTS[:1])
        told = []
        with table.trial() as first:
            told.append(all_of(table))
            first.do(PUTS[1])
            with first.trial() as second:
                told.append(all_of(table))
                second.do(PUTS[2])
                with second.trial():
                    told.append(all_of(table))
                    done(table, PUTS[3:])
                self.assertEqual(all_of(table), told.pop())
                with second.trial():
                    second.do(("visit", 1))
                self.assertEqual(table.undo(), PUTS[2])
                table.do(("put", 1, 1, 1))
            self.assertEqual(all_of(table), told.pop())
        self.assertEqual(all_of(table), told.pop())

    def test_two_in_one_statement(self):
        table = done(two_rows(), PUTS[:1])
        before = all_of(table)
        with table.trial() as one, table.trial() as other:
            self.assertIs(one, other)
            done(table, PUTS[1:])
        self.assertEqual(all_of(table), before)

    def test_left_by_an_error(self):
        table = done(two_rows(), PUTS[:2])
        before = all_of(table)
        error = KeyError("own")
        try:
            with table.trial():
                table.do(("begin",))
                raise error
        except KeyError as caught:
            self.assertIs(caught, error)
        self.assertEqual(all_of(table), before)
        with self.assertRaises(BadDeed):
            with table.trial():
                table.do(("begin",))
                table.do(("begin",))
        self.assertEqual(all_of(table), before)

    def test_an_error_through_two_of_them(self):
        table = done(two_rows(), PUTS[:2])
        told = []
        with self.assertRaises(ZeroDivisionError):
            with table.trial():
                table.do(PUTS[2])
                inner = all_of(table)
                try:
                    with table.trial():
                        table.do(PUTS[3])
                        raise ZeroDivisionError
                finally:
                    told.append(all_of(table) == inner)
        self.assertEqual(told, [True])
        self.assertEqual(all_of(table), all_of(done(two_rows(), PUTS[:2])))
        self.assertEqual(table.undo(), PUTS[1])

    def test_left_by_return_break_and_continue(self):
        table = done(two_rows(), PUTS[:2])
        before = all_of(table)

        def returned():
            with table.trial():
                table.do(PUTS[2])
                return len(table)

        self.assertEqual(returned(), 3)
        self.assertEqual(all_of(table), before)
        for at in range(3):
            with table.trial():
                table.do(PUTS[2])
                if at == 2:
                    break
                continue
        self.assertEqual(all_of(table), before)

    def test_one_with_block_entered_again(self):
        table = two_rows()
        trial = table.trial()
        for deed in PUTS[:2]:
            table.do(deed)
            before = all_of(table)
            with trial:
                table.do(("put", 1, 0, 0))
                with trial:
                    table.do(("put", 1, 0, 1))
                self.assertEqual(len(table), len(before[1]) + 1)
            self.assertEqual(all_of(table), before)

    def test_of_two_tables(self):
        table, other = two_rows(), done(two_rows(), PUTS[:1])
        with table.trial(), other.trial():
            done(table, PUTS[:3])
            refused(self, other.undo, NothingDone)
            other.do(PUTS[1])
        self.assertEqual((table.journal, other.journal), ([], PUTS[:1]))


class Attempts(unittest.TestCase):
    def test_returns_what_the_function_returns(self):
        table = done(two_rows(), PUTS[:2])
        before = all_of(table)
        told = []

        def work(inner):
            told.append(inner is table)
            done(inner, PUTS[2:])
            refused(self, lambda: [inner.undo() for _ in range(5)], NothingDone)
            return inner.journal

        self.assertEqual(table.attempt(work), PUTS[:2])
        self.assertEqual(told, [True])
        self.assertEqual(all_of(table), before)
        self.assertIsNone(table.attempt(lambda inner: None))
        self.assertIs(table.attempt(lambda inner: inner), table)
        self.assertEqual(table.attempt(lambda inner: inner.do(PUTS[2])), done(two_rows(), PUTS[:3]).now)
        self.assertEqual(table.attempt(len), 2)
        self.assertEqual(table.attempt(work=len), 2)

    def test_a_function_that_raises(self):
        table = done(two_rows(), PUTS[:2])
        before = all_of(table)
        error = ValueError("own")

        def work(inner):
            inner.do(PUTS[2])
            raise error

        for function in (work, lambda inner: inner.attempt(work)):
            try:
                table.attempt(function)
            except ValueError as caught:
                self.assertIs(caught, error)
            else:
                self.fail("nothing was raised")
            self.assertEqual(all_of(table), before)
        refused(self, lambda: table.attempt(lambda inner: inner.undo()), NothingDone)
        refused(self, lambda: table.attempt(lambda inner: inner.do(None)), BadDeed)
        self.assertEqual(all_of(table), before)

    def test_a_branch_of_an_attempt_stays(self):
        table = done(two_rows(), PUTS[:2])
        other = table.attempt(lambda inner: done(inner, PUTS[2:]).branch())
        self.assertEqual((table.journal, other.journal), (PUTS[:2], PUTS))
        self.assertEqual(other.undo(), PUTS[-1])


class Tries(unittest.TestCase):
    def test_what_do_returns_for_each(self):
        for history in (PUTS, tuple(PUTS), [], ()):
            table, other = two_rows(), two_rows()
            before = all_of(table)
            self.assertEqual(table.tried(history), [other.do(deed) for deed in history])
            self.assertEqual(all_of(table), before)
        table = done(two_rows(), PUTS[:2])
        before = all_of(table)
        self.assertEqual(table.tried(PUTS[2:]), two_rows().tried(PUTS)[2:])
        self.assertEqual(table.tried(history=PUTS[2:3])[0], done(two_rows(), PUTS[:3]).now)
        self.assertEqual(all_of(table), before)

    def test_what_cannot_be_done(self):
        table = done(two_rows(), PUTS[:1])
        before = all_of(table)
        rest = PUTS[1:]
        for strange in NO_DEEDS + (("put", 0, 0, 0),):
            for at in (0, 2, len(rest)):
                if strange in (("visit", 0), ("cut", 0, 0)):
                    # They can be done at some of these places.
                    continue
                refused(self, lambda: table.tried(rest[:at] + [strange] + rest[at:]), BadDeeds, at)
                refused(self, lambda: table.tried(tuple(rest[:at]) + (strange, None)), BadDeeds, at)
            self.assertEqual(all_of(table), before)
        for at in range(len(rest) + 1):
            refused(self, lambda: table.tried(rest[:at] + [("visit", 7)] + rest[at:]), BadDeeds, at)
        # No row is visited twice by one step.
        refused(self, lambda: table.tried(rest[:3] + rest[2:]), BadDeeds, 3)
        self.assertEqual(all_of(table), before)

    def test_what_is_no_list_or_tuple(self):
        table = done(two_rows(), PUTS[:1])
        for strange in (None, 0, True, "begin", "", b"", {}, {("begin",): 0}, set(), len, Agreeable(), SHORT, iter([])):
            refused(self, lambda: table.tried(strange), BadDeeds, None)
        self.assertEqual(table.journal, PUTS[:1])

    def test_in_a_trial(self):
        table = done(two_rows(), PUTS[:2])
        with table.trial():
            table.do(PUTS[2])
            self.assertEqual(len(table.tried(PUTS[3:])), 3)
            refused(self, lambda: table.tried(PUTS), BadDeeds, 0)
            self.assertEqual(table.undo(), PUTS[2])
            refused(self, table.undo, NothingDone)
        self.assertEqual(table.undo(), PUTS[1])


class Lists(unittest.TestCase):
    """What is handed in or returned can be changed afterwards."""

    def test_what_is_returned_is_new(self):
        table = done(two_rows(), PUTS[:4])
        before = all_of(table)
        for told in (table.now, table.journal, table.can(), table.broken(), table.do(("visit", 1))):
            told.clear()
        table.do(("begin",))
        table.rows_by(0, 0).clear()
        self.assertEqual(table.rows_by(0, 0), [0])
        table.undo()
        table.undo()
        for told in table.tried(PUTS[4:]):
            told.clear()
        self.assertEqual(all_of(table), before)
        self.assertIsNot(table.now, table.now)
        self.assertIsNot(table.journal, table.journal)
        states = table.do(("visit", 1))
        states[0] = None
        self.assertEqual(table.now[0], (2, False, 0, ((0,),)))

    def test_what_is_handed_in_is_not_kept(self):
        table = two_rows()
        history = list(PUTS)
        table.tried(history)
        self.assertEqual(history, PUTS)
        history.clear()
        self.assertEqual(table.journal, [])
        journal = done(table, PUTS).journal
        self.assertEqual(len(two_rows().tried(journal)), 6)
        with table.trial():
            journal = table.journal
            journal.append(None)
        self.assertEqual(table.journal, PUTS)

    def test_now_and_journal_cannot_be_set(self):
        table = done(two_rows(), PUTS[:1])
        for name in ("now", "journal"):
            self.assertRaises(AttributeError, setattr, table, name, [])
        self.assertEqual(table.journal, PUTS[:1])


class WrongArguments(unittest.TestCase):
    def test_making_one(self):
        wrongs = [
            (0, NO_SCHEDULES, BadSchedule, None), ("lag", NO_LAGS, BadLag),
            (1, STRANGE + (None, 0, 4, (1,), [1], "1", SHORT), BadRows),
        ]
        check_door(self, LiveTable, [SHORT, 2], wrongs, "lag")
        refused(self, lambda: LiveTable(None, None, lag=None), BadSchedule, None)
        self.assertRaises(TypeError, LiveTable, SHORT, 2, 1)
        self.assertEqual(len(LiveTable(schedule=SHORT, rows=3, lag=0)), 0)

    def test_what_is_refused_changes_nothing(self):
        table = done(two_rows(), PUTS[:1])
        before = all_of(table)
        for strange in NO_DEEDS:
            if strange == ("cut", 0, 0):
                continue
            refused(self, lambda: table.do(strange), BadDeed)
            self.assertEqual(all_of(table), before)
        refused(self, lambda: table.do(("put", 0, 0, 0)), BadDeed)
        refused(self, lambda: table.do(("put", 0, 1, 1)), BadDeed)
        refused(self, lambda: table.rows_by(0, 0), NotPublic)
        refused(self, lambda: table.tried([("begin",), None]), BadDeeds, 1)
        self.assertEqual(all_of(table), before)
        self.assertEqual(table.undo(), PUTS[0])


class AgainstTheModel(unittest.TestCase):
    """Tables on which deeds, undoing, branches and trials come as they like."""

    def check(self, table, twin):
        self.assertEqual((table.now, table.journal, len(table)), (twin.now(), twin.journal, len(twin.journal)))
        self.assertEqual((table.can(), table.broken()), (twin.can(), twin.broken()))
        for index in range(len(twin.schedule.first)):
            for value in range(twin.schedule.width):
                rows = twin.rows_by(index, value)
                if rows is None:
                    refused(self, lambda: table.rows_by(index, value), NotPublic)
                else:
                    self.assertEqual(table.rows_by(index, value), rows)

    def walk(self, chance, table, twin, depth, kept):
        """Does what chance tells, with trials within one another; kept deeds cannot be undone."""
        for _ in range(chance.randrange(8)):
            turn = chance.randrange(10)
            if turn < 6:
                deed = chance.choice(twin.can())
                twin.journal.append(deed)
                self.assertEqual(table.do(deed), twin.now())
            elif turn == 6 and len(twin.journal) > kept:
                self.assertEqual(table.undo(), twin.journal.pop())
            elif turn == 6:
                refused(self, table.undo, NothingDone)
            elif turn == 7:
                self.check(table.branch(), twin)
                self.walk(chance, table.branch(), Replayed(twin.schedule, twin.rows, twin.lag, twin.journal), 2, 0)
            elif depth < 3:
                journal = list(twin.journal)
                try:
                    with table.trial():
                        self.walk(chance, table, twin, depth + 1, len(journal))
                        if turn == 8:
                            raise LagError
                except LagError:
                    self.assertEqual(turn, 8)
                twin.journal = journal
            self.check(table, twin)

    def test_walks(self):
        chance = random.Random(120)
        lengths = set()
        for schedule in some_schedules(40):
            rows, lag = chance.choice((1, 2, 3)), chance.choice((0, 1, 2, 4))
            table, twin = LiveTable(schedule, rows, lag=lag), Replayed(schedule, rows, lag)
            self.check(table, twin)
            for _ in range(3):
                if twin.can():
                    self.walk(chance, table, twin, 0, 0)
            lengths.add(len(table))
        self.assertGreater(len(lengths), 8)

    def test_many_deeds(self):
        table = LiveTable(Schedule(1, ("public",), ()), 1)
        for _ in range(1000):
            table.do(("put", 0, 0, 0))
            table.do(("cut", 0, 0))
        with table.trial():
            done(table, [("put", 0, 0, 0), ("cut", 0, 0)] * 100)
        self.assertEqual(len(table), 2000)
        for _ in range(2000):
            table.undo()
        self.assertEqual(table.now, [(0, False, None, ((),))])


if __name__ == "__main__":
    unittest.main()
