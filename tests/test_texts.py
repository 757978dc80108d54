"""Point 13: texts of schedules and of weavings."""

import random
import unittest

from editionlag.errors import BadDeeds, BadLag, BadSchedule, BadText
from editionlag.schedules import Schedule
from editionlag.states import deeds, first_state, woven
from editionlag.texts import read_schedule, read_weaving, schedule_text, weaving_text
from tests.test_judging import some_schedules
from tests.wrong import HUGE, NO_LAGS, NO_SCHEDULES, SHORT, Agreeable, check_door, refused

SHORT_TEXT = "width 2\nfirst absent\nedition write\nfill 0\nedition public\n"
TWELVE = Schedule(3, ("write",), (("edition", ("write",)),) * 12)
NO_TEXTS = (None, 0, True, b"width 1\nfirst write\n", [], ["width 1\n"], ("width 1\n",), {}, set(), len, Agreeable(), SHORT)
# What is written for a number, and for none.
NUMBERS = ("0", "7", "10", "99", "100", "999")
NO_NUMBERS = (
    "", "00", "01", "000", "010", "1000", "0000", "-1", "+1", "1.0", "1_0", "0x1", "x", "None", "True", "\u0661", "\u00b2",
    "1\r", "1\t", "\t1", "I",
)
WORDS = ("absent", "delete", "public", "write")


def history_of(schedule, chance, many, lag):
    """A weaving that chance tells."""
    found = []
    state = first_state(schedule)
    for _ in range(many):
        options = deeds(schedule, state, lag=lag)
        if options:
            # Steps begin rather sooner than later.
            found.append(chance.choice(options[:1] * 3 + options))
            state = woven(schedule, found, lag=lag)[-1]
    return found


class Written(unittest.TestCase):
    def test_schedules(self):
        self.assertEqual(schedule_text(SHORT), SHORT_TEXT)
        self.assertEqual(schedule_text(Schedule(1, ("write",), ())), "width 1\nfirst write\n")
        self.assertEqual(
            schedule_text(Schedule(3, ("public", "delete"), (("sweep", 1), ("edition", ("absent", "absent")), ("fill", 0)))),
            "width 3\nfirst public delete\nsweep 1\nedition absent absent\nfill 0\n",
        )
        self.assertEqual(schedule_text(TWELVE), "width 3\nfirst write\n" + "edition write\n" * 12)

    def test_weavings(self):
        self.assertEqual(weaving_text(SHORT, []), "")
        self.assertEqual(weaving_text(SHORT, ()), "")
        history = [("put", 0, 1), ("begin",), ("begin",), ("visit",), ("put", 1, 0), ("cut", 0)]
        self.assertEqual(weaving_text(SHORT, history), "put 0 1\nbegin\nbegin\nvisit\nput 1 0\ncut 0\n")
        self.assertEqual(weaving_text(SHORT, tuple(history)), weaving_text(SHORT, history, lag=1))

    def test_numbers_of_two_digits(self):
        history = [("begin",)] * 12 + [("put", 12, 2), ("put", 10, 1), ("cut", 11)]
        text = "begin\n" * 12 + "put 12 2\nput 10 1\ncut 11\n"
        self.assertEqual(weaving_text(TWELVE, history, lag=2), text)
        self.assertEqual(read_weaving(TWELVE, text, lag=2), history)
        refused(self, lambda: weaving_text(TWELVE, history), BadDeeds, 13)
        refused(self, lambda: read_weaving(TWELVE, text), BadText, 13)

    def test_read_back(self):
        chance = random.Random(13)
        for schedule in some_schedules(80):
            self.assertEqual(read_schedule(schedule_text(schedule)), schedule)
            for lag in (0, 1, 4):
                history = history_of(schedule, chance, 12, lag)
                found = read_weaving(schedule, weaving_text(schedule, history, lag=lag), lag=lag)
                self.assertEqual(found, history)
                self.assertIs(found.__class__, list)
                self.assertEqual([deed.__class__ for deed in found], [tuple] * len(history))
        for schedule in (TWELVE, HUGE, Schedule(1, ("public", "absent"), ())):
            self.assertEqual(read_schedule(schedule_text(schedule)), schedule)

    def test_the_default_lag_is_1(self):
        history = [("begin",), ("begin",), ("visit",), ("begin",), ("put", 0, 0)]
        refused(self, lambda: weaving_text(SHORT, history), BadDeeds, 4)
        text = weaving_text(SHORT, history, lag=2)
        refused(self, lambda: read_weaving(SHORT, text), BadText, 4)
        self.assertEqual(read_weaving(SHORT, text, lag=2), history)


class ReadSchedule(unittest.TestCase):
    def check(self, text, row):
        with self.subTest(text=text):
            refused(self, lambda: read_schedule(text), BadText, row)

    def test_no_texts(self):
        for text in NO_TEXTS:
            self.check(text, 0)

    def test_no_line_at_all(self):
        self.check("", 0)
        self.check("width 1", 0)
        self.check("x", 0)
        self.check("\n", 0)
        self.check("\n\n", 0)

    def test_lines_that_are_missing(self):
        self.check("width 1\n", 1)
        self.check("width 1\nfirst absent", 1)
        self.check("first absent\n", 0)
        self.check("fill 0\n", 0)

    def test_ends_cut_off(self):
        """Each shorter text is a schedule of fewer steps, or is refused at its last line."""
        for many in range(len(SHORT_TEXT)):
            text = SHORT_TEXT[:many]
            lines = text.count("\n")
            if text.endswith("\n") and lines > 1:
                self.assertEqual(read_schedule(text), SHORT.with_steps(SHORT.steps[:lines - 2]))
            else:
                self.check(text, lines)

    def test_beginnings_cut_off(self):
        lines = SHORT_TEXT.splitlines(keepends=True)
        for many in range(1, len(SHORT_TEXT) + 1):
            text = SHORT_TEXT[many:]
            self.check(text, 0)
        self.assertEqual("".join(lines), SHORT_TEXT)

    def test_what_follows_the_last_line_feed(self):
        for rest in (" ", "x", "fill 0", "\r", "fill 0\n ", "sweep 0\nfill"):
            self.check(SHORT_TEXT + rest, 5 + rest.count("\n"))
        # The first line that is wrong comes first.
        self.check("width 1\nfirst x\nfill 0", 1)
        self.check("width 9\nfirst absent\nfill 0", 2)

    def test_a_line_twice_or_left_out_or_in_another_place(self):
        lines = SHORT_TEXT.splitlines(keepends=True)
        for at, line in enumerate(lines):
            rest = lines[:at] + lines[at + 1:]
            if at < 2:
                self.check("".join(rest), at)
                self.check("".join(lines[:at] + [line] + lines[at:]), at + 1)
            else:
                self.assertEqual(len(read_schedule("".join(rest))), 2)
                self.assertEqual(len(read_schedule("".join(lines[:at] + [line] + lines[at:]))), 4)
            for row in range(len(rest) + 1):
                moved = rest[:row] + [line] + rest[row:]
                if moved[:2] != lines[:2]:
                    self.check("".join(moved), [one == other for one, other in zip(moved, lines)].index(False))
        self.check("width 2\nedition absent\n", 1)
        self.check("width 2\nfill 0\n", 1)
        self.check("first absent\nwidth 2\n", 0)
        self.check(SHORT_TEXT + "begin\n", 5)

    def test_a_letter_put_in_left_out_or_changed(self):
        """Against what is written: a text that can be read is that of what it gives."""
        read = 0
        for at in range(len(SHORT_TEXT) + 1):
            texts = [SHORT_TEXT[:at] + letter + SHORT_TEXT[at:] for letter in " \n\r\t01ax-"]
            texts += [SHORT_TEXT[:at] + letter + SHORT_TEXT[at + 1:] for letter in ("", " ", "\n", "1", "2", "W", "\0")]
            for text in texts:
                try:
                    found = read_schedule(text)
                except BadText as error:
                    self.assertLessEqual(error.row, text.count("\n"))
                    self.assertGreaterEqual(error.row, min(SHORT_TEXT[:at].count("\n"), text.count("\n")))
                else:
                    self.assertEqual(schedule_text(found), text)
                    read += 1
        self.assertGreater(read, 3)

    def test_spaces(self):
        for text, row in (
            (" width 1\nfirst write\n", 0), ("width 1 \nfirst write\n", 0), ("width  1\nfirst write\n", 0),
            ("width\t1\nfirst write\n", 0), ("width1\nfirst write\n", 0), ("width 1\nfirst  write\n", 1),
            ("width 1\nfirst write \n", 1), ("width 1\n first write\n", 1), ("width 1\nfirst \n", 1),
            ("width 1\nfirst write\n\n", 2), ("width 1\nfirst write\n \n", 2), ("width 1\nfirst write\nfill 0 \n", 2),
            ("width 1\r\nfirst write\r\n", 0), ("width 1\nfirst write\r\n", 1), ("width 1\n\nfirst write\n", 1),
            ("width 1\nfirst write\nedition write \n", 2), ("width 1\nfirst write\nedition  write\n", 2),
            ("\nwidth 1\nfirst write\n", 0), ("width 1\x0bfirst write\n", 0), ("width 1\u2028first write\n", 0),
        ):
            self.check(text, row)

    def test_words(self):
        for word in ("Absent", "index", "absents", "", "0", "None", "width", "absent,"):
            self.check(f"width 1\nfirst {word}\n", 1)
            self.check(f"width 1\nfirst absent {word}\n", 1)
            self.check(f"width 1\nfirst absent\nedition {word}\n", 2)
        for head in ("Width", "widths", "wid", "first", "edition", "fill", "", "begin"):
            self.check(f"{head} 1\nfirst absent\n", 0)
        for head in ("First", "firsts", "edition", "width", "", "begin"):
            self.check(f"width 1\n{head} absent\n", 1)
        for head in ("Edition", "editions", "first", "width", "fill", "sweep", "visit", ""):
            self.check(f"width 1\nfirst absent\n{head} absent\n", 2)
        for head in ("Fill", "fills", "width", "edition", "first", "sweeps", "cut", ""):
            self.check(f"width 1\nfirst absent\n{head} 0\n", 2)

    def test_numbers(self):
        for number in NO_NUMBERS:
            self.check(f"width {number}\nfirst absent\n", 0)
            self.check(f"width 1\nfirst absent\nfill {number}\n", 2)
            self.check(f"width 1\nfirst absent\nsweep {number}\n", 2)
        for line in ("width", "width 1 1", "width 1 absent"):
            self.check(f"{line}\nfirst absent\n", 0)
        for line in ("fill", "fill 0 0", "sweep", "sweep 0 0", "fill absent"):
            self.check(f"width 1\nfirst absent\n{line}\n", 2)

    def test_lines_of_the_form_that_write_no_schedule(self):
        for number in NUMBERS:
            if number not in ("1", "2", "3"):
                self.check(f"width {number}\nfirst absent\n", 2)
            if number != "0":
                self.check(f"width 1\nfirst absent\nfill {number}\n", 3)
                self.check(f"width 1\nfirst absent\nsweep {number}\nfill 0\n", 4)
        for text, row in (
            ("width 1\nfirst\n", 2), ("width 1\nfirst absent absent absent\n", 2), ("width 1\nfirst absent\nedition\n", 3),
            ("width 1\nfirst absent\nedition write write\n", 3), ("width 1\nfirst absent absent\nedition write\n", 3),
            ("width 1\nfirst write\n" + "fill 0\n" * 13, 15), ("width 1\nfirst absent absent\nfill 2\n", 3),
            ("width 0\nfirst\nedition\nfill 9\n", 4), ("width 4\nfirst absent\nfill 0\n", 3),
        ):
            self.check(text, row)
        # The first line that is not of the form comes first.
        self.check("width 4\nfirst absent\nedition\nfill x\n", 3)
        self.assertEqual(len(read_schedule("width 1\nfirst write\n" + "fill 0\n" * 12)), 12)

    def test_each_is_new(self):
        self.assertIsNot(read_schedule(SHORT_TEXT), read_schedule(SHORT_TEXT))
        self.assertEqual(read_schedule(text=SHORT_TEXT), SHORT)


class ReadWeaving(unittest.TestCase):
    TEXT = "put 0 1\nbegin\nbegin\nvisit\nput 1 0\n"

    def check(self, text, row, schedule=SHORT, lag=1):
        with self.subTest(text=text):
            refused(self, lambda: read_weaving(schedule, text, lag=lag), BadText, row)

    def test_no_line_at_all(self):
        self.assertEqual(read_weaving(SHORT, ""), [])
        self.check("begin", 0)
        self.check(" ", 0)
        self.check("\n", 0)

    def test_no_texts(self):
        for text in NO_TEXTS:
            self.check(text, 0)

    def test_ends_cut_off(self):
        for many in range(len(self.TEXT)):
            text = self.TEXT[:many]
            if text.endswith("\n") or not text:
                self.assertEqual(len(read_weaving(SHORT, text)), text.count("\n"))
            else:
                self.check(text, text.count("\n"))

    def test_what_cannot_be_done_then(self):
        for text, row in (
            ("visit\n", 0), ("cut 0\n", 0), ("put 1 0\n", 0), ("put 0 2\n", 0), ("put 0 1\nput 0 1\n", 1),
            ("begin\nbegin\nbegin\n", 2), ("begin\nbegin\nvisit\nvisit\n", 3), ("put 0 0\ncut 0\ncut 0\n", 2),
            ("begin\nbegin\nvisit\nbegin\nput 0 0\n", 4), ("begin\nbegin\nvisit\nbegin\nbegin\n", 4),
        ):
            self.check(text, row)

    def test_a_letter_put_in_left_out_or_changed(self):
        read = 0
        for at in range(len(self.TEXT) + 1):
            texts = [self.TEXT[:at] + letter + self.TEXT[at:] for letter in " \n\r\t01bx-"]
            texts += [self.TEXT[:at] + letter + self.TEXT[at + 1:] for letter in ("", " ", "\n", "1", "0", "B", "\0")]
            for text in texts:
                try:
                    found = read_weaving(SHORT, text)
                except BadText as error:
                    self.assertLessEqual(error.row, text.count("\n"))
                    self.assertGreaterEqual(error.row, min(self.TEXT[:at].count("\n"), text.count("\n")))
                else:
                    self.assertEqual(weaving_text(SHORT, found), text)
                    read += 1
        self.assertGreater(read, 3)

    def test_spaces_words_and_numbers(self):
        for line in (
            " begin", "begin ", "Begin", "begin 0", "beg", "begin\r", "visit 0", "put 0", "put 0 0 0", "put  0 0", "put 0  0",
            "put 00 0", "put 0 00", "put 0 01", "put 000 0", "put -0 0", "put +0 0", "put 0,0", "put 0 0 ", "put False 0",
            "put 0 None", "put\t0 0", "fill 0", "edition write", "", " ", "cut", "('begin',)",
        ):
            self.check(f"{line}\n", 0)
            self.check(f"begin\n{line}\nbegin\n", 1)
        self.check("begin\nbegin x\nput 0 0", 1)
        self.check("begin\nput 0 0\nput 0 1", 2)

    def test_a_line_left_out_twice_and_in_another_place(self):
        lines = self.TEXT.splitlines(keepends=True)
        self.check("".join(lines[:1] * 2 + lines[1:]), 1)
        self.check("".join(lines[:3] + lines[4:] + lines[4:]), 4)
        self.check("".join(lines[:2] + lines[3:]), 2)
        self.check("".join(lines[:4] + lines[3:]), 4)
        self.check("".join(lines[4:] + lines[:4]), 0)

    def test_the_list_is_new(self):
        read_weaving(SHORT, self.TEXT).clear()
        self.assertEqual(len(read_weaving(SHORT, self.TEXT)), 5)
        self.assertEqual(len(read_weaving(schedule=SHORT, text=self.TEXT, lag=1)), 5)


class WrongArguments(unittest.TestCase):
    def test_schedule_text(self):
        check_door(self, schedule_text, [SHORT], [(0, NO_SCHEDULES, BadSchedule, None)])

    def test_weaving_text(self):
        history = [("begin",), ("put", 1, 0)]
        nothing = (None, 0, True, "begin", b"", {}, {("begin",): 1}, set(), len, Agreeable(), SHORT)
        wrongs = [
            (0, NO_SCHEDULES, BadSchedule, None), ("lag", NO_LAGS, BadLag), (1, nothing, BadDeeds, None),
        ]
        check_door(self, weaving_text, [SHORT, history], wrongs, "lag")
        for strange in (
            None, 0, (), "begin", ["begin"], ("begin", 0), ("visit",), ("put", True, 0), ("put", 1, False), ("put", 2, 0),
            ("cut", 1, 0), ("put", 1, 0), Agreeable(), (Agreeable(),), ("put", 1, Agreeable()), ("fill", 0),
        ):
            refused(self, lambda: weaving_text(SHORT, history + [strange]), BadDeeds, 2)
            refused(self, lambda: weaving_text(SHORT, (*history, strange, None)), BadDeeds, 2)
            refused(self, lambda: weaving_text(SHORT, [strange], lag=5), BadLag)
        refused(self, lambda: weaving_text(None, None, lag=None), BadSchedule, None)
        self.assertRaises(TypeError, weaving_text, SHORT, history, 1)
        self.assertEqual(history, [("begin",), ("put", 1, 0)])

    def test_read_weaving(self):
        wrongs = [(0, NO_SCHEDULES, BadSchedule, None), ("lag", NO_LAGS, BadLag), (1, NO_TEXTS, BadText, 0)]
        check_door(self, read_weaving, [SHORT, "begin\n"], wrongs, "lag")
        refused(self, lambda: read_weaving(SHORT, "visit\n", lag=5), BadLag)
        refused(self, lambda: read_weaving(None, None, lag=None), BadSchedule, None)
        self.assertRaises(TypeError, read_weaving, SHORT, "begin\n", 1)


if __name__ == "__main__":
    unittest.main()
