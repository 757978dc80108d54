"""What holds over the whole package: errors, doors told twice, equality, and the examples."""

import copy
import pathlib
import re
import unittest

from editionlag import backs, errors, judging, lags, leaving, live, looks, repairs, schedules, states, stragglers, texts
from editionlag import waits, weaving
from editionlag.schedules import Schedule
from tests.test_errors import NAMES
from tests.test_examples import PARTS, SHOWS
from tests.wrong import SHORT, Agreeable

DOCUMENT = pathlib.Path(__file__).resolve().parent.parent.parent / "shared" / "DOC.md"
EXAMPLES = pathlib.Path(__file__).resolve().parent / "examples.txt"
WRITE, PUBLIC = ("write",), ("public",)
TO_DELETE, TO_WRITE, TO_PUBLIC = ("edition", ("delete",)), ("edition", WRITE), ("edition", PUBLIC)
NARROW = Schedule(1, ("absent",), (TO_WRITE, ("fill", 0), TO_PUBLIC))
FOUR = Schedule(1, ("absent",), (TO_DELETE, TO_WRITE, ("fill", 0), TO_PUBLIC))
CAREFUL = Schedule(1, ("absent",), (TO_DELETE, TO_WRITE, TO_WRITE, ("fill", 0), TO_PUBLIC, TO_PUBLIC))
TWICE = Schedule(1, ("absent",), (TO_PUBLIC, TO_PUBLIC))
BARE = Schedule(1, ("absent",), (TO_PUBLIC,))
ROAD = (1, ("absent",), PUBLIC, (1, 1, 1))
WEAVING = [("put", 0, 1), ("begin",), ("begin",), ("visit",), ("put", 1, 0)]
STATE = (2, True, 1, ((0,),))
# Every function of the interface, with arguments; those that can give either of two classes, for both.
DOORS = (
    (schedules.window, SHORT, 3), (states.first_state, SHORT), (states.deeds, SHORT, STATE), (states.broken, SHORT, STATE),
    (states.after, SHORT, STATE, ("visit",)), (states.woven, SHORT, WEAVING), (states.all_states, SHORT),
    (judging.judge, SHORT, "left"), (judging.judge, SHORT, "stray"), (judging.is_kept, SHORT, "left"),
    (judging.soonest, SHORT, "stray"), (judging.is_right, SHORT), (lags.bear, CAREFUL), (lags.greatest_lag, CAREFUL),
    (looks.look_of, SHORT), (looks.comes_home, CAREFUL, PUBLIC), (looks.cheapest, *ROAD, 9), (looks.cheapest, *ROAD, 5),
    (looks.least_price, *ROAD, 9), (leaving.lots, CAREFUL, (0, 1, 5)), (leaving.left_out, CAREFUL, (0, 1), (1,)),
    (leaving.spare, CAREFUL, (0, 1, 5), PUBLIC), (leaving.greatest_lots, CAREFUL, (0, 1, 5), PUBLIC),
    (weaving.plans, NARROW, FOUR), (weaving.woven_by, BARE, BARE, ("both",)), (weaving.weave, FOUR, FOUR),
    (weaving.weave, NARROW, NARROW), (weaving.least_steps, FOUR, FOUR), (backs.back, CAREFUL, 6, (1, 1, 1), 9),
    (backs.back, CAREFUL, 6, (1, 1, 1), 3), (backs.back_price, CAREFUL, 6, (1, 1, 1), 9),
    (backs.back_prices, CAREFUL, (1, 1, 1), 9), (texts.schedule_text, SHORT), (texts.weaving_text, SHORT, WEAVING),
    (texts.read_schedule, "width 1\nfirst write\nfill 0\n"), (texts.read_weaving, SHORT, "begin\nput 1 0\n"),
    (stragglers.stay, CAREFUL), (stragglers.harmless, CAREFUL), (waits.are_right_waits, FOUR, (2, 0, 1)),
    (waits.wait, FOUR), (waits.greatest_waits, FOUR), (repairs.repaired, BARE, (("fill", 0),)), (repairs.repair, TWICE),
    (repairs.repair, BARE), (repairs.least_repair, TWICE),
)
# Nothing is taken to be equal for the parts alone: the same parts, for each class with `shows`.
ALIKE = (
    judging.Right([]), judging.Wrong([]), lags.Bears(0, [], []), looks.Cheapest((), {}), looks.NoWay({}),
    leaving.Spared({}, {}), weaving.Shortest((), [], {}), weaving.NoPlan({}), backs.Back((), {}), backs.NoBack({}),
    stragglers.Stayed({}, {}), waits.Longest({}, {}), repairs.Repair((), [], {}), repairs.NoRepair({}),
)


def spoil(told):
    """Changes all that can be changed of what was told."""
    if isinstance(told, list):
        for item in told:
            spoil(item)
        told.append(None)
        told.reverse()
    elif isinstance(told, dict):
        for item in told.values():
            spoil(item)
        told[None] = None
    elif isinstance(told, tuple):
        for item in told:
            spoil(item)
    elif hasattr(told, "shows"):
        for item in vars(told).values():
            spoil(item)


class Errors(unittest.TestCase):
    def test_each_is_itself_alone(self):
        made = {"BadSchedule": ("width",), "BadDeeds": (3,), "BadText": (2,)}
        attributes = {"BadSchedule": ("part", "width"), "BadDeeds": ("index", 3), "BadText": ("row", 2)}
        for name in NAMES:
            error = getattr(errors, name)(*made.get(name, ()))
            self.assertIsInstance(error, errors.LagError)
            self.assertIsInstance(error, ValueError)
            for other in NAMES:
                self.assertEqual(isinstance(error, getattr(errors, other)), name == other)
            if name in attributes:
                self.assertEqual(getattr(error, attributes[name][0]), attributes[name][1])
            self.assertIsInstance(str(error), str)


class Doors(unittest.TestCase):
    def test_all_are_here(self):
        told = {door[0].__name__ for door in DOORS}
        listed = {name for names in PARTS.values() for name in names if not name[0].isupper()}
        self.assertEqual(told, listed)

    def test_told_twice(self):
        for door, *given in DOORS:
            with self.subTest(door=door.__name__, given=given):
                handed = copy.deepcopy(given)
                first = door(*given)
                kept = copy.deepcopy(first)
                spoil(first)
                again = door(*given)
                self.assertEqual(again, kept)
                self.assertEqual(again.__class__, kept.__class__)
                self.assertEqual(given, handed)
                if hasattr(first, "shows") or isinstance(first, (list, dict)):
                    self.assertIsNot(again, first)

    def test_dicts_have_their_order_twice(self):
        for door, *given in DOORS:
            first, again = door(*given), door(*given)
            for name, value in (vars(first) if hasattr(first, "shows") else {}).items():
                if isinstance(value, dict) and name != "levels":
                    self.assertEqual(list(value), list(getattr(again, name)))

    def test_properties_of_what_is_returned(self):
        table = live.LiveTable(SHORT, 2)
        for told in (SHORT.editions(), table.now, table.journal, table.can(), table.broken(), table.do(("begin",))):
            spoil(told)
        self.assertEqual(SHORT.editions(), [("absent",), WRITE, PUBLIC])
        self.assertEqual((len(table), len(table.now)), (1, 2))
        self.assertEqual(len(table.journal), 1)


class Equality(unittest.TestCase):
    def test_all_classes_are_here(self):
        self.assertEqual({told.__class__.__name__ for told in ALIKE}, {name for _, name in SHOWS})

    def test_objects_of_different_classes_are_not_equal(self):
        others = ALIKE + (SHORT, live.LiveTable(SHORT, 1), errors.BadLag(), (), [], {}, None, 0, "", Agreeable())
        for one in ALIKE + (SHORT,):
            for other in others:
                same = one is other
                self.assertIs(one == other, same, (one, other))
                self.assertIs(one != other, not same, (one, other))
        for one, other in zip(ALIKE, copy.deepcopy(ALIKE)):
            self.assertTrue(one == other)
            self.assertFalse(one != other)

    def test_what_shows_it_is_shown_again(self):
        """What each door returns with a method shows, shown with the very arguments of the door."""
        shown = set()
        for door, *given in DOORS:
            found = door(*given)
            if hasattr(found, "shows"):
                self.assertIs(found.shows(*given), True)
                shown.add(found.__class__.__name__)
        self.assertEqual(shown, {name for _, name in SHOWS})


class Examples(unittest.TestCase):
    def test_they_are_those_of_the_document(self):
        if not DOCUMENT.exists():
            self.skipTest("the document is not here")
        blocks = re.findall(r"^```\n(.*?)^```$", DOCUMENT.read_text(), re.DOTALL | re.MULTILINE)
        self.assertTrue(blocks)
        text = EXAMPLES.read_text()
        places = [text.find(block) for block in blocks]
        self.assertNotIn(-1, places)
        self.assertEqual(places, sorted(places))
        self.assertEqual(text.count(">>>"), sum(block.count(">>>") for block in blocks))


if __name__ == "__main__":
    unittest.main()
