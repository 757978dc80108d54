"""The examples of the interface, and the names, files and parameters that it lists."""

import doctest
import importlib
import inspect
import unittest

PARTS = {
    "schedules": {
        "Schedule": "(width, first, steps)",
        "window": "(schedule, begun, *, lag=1)",
    },
    "states": {
        "first_state": "(schedule)",
        "deeds": "(schedule, state, *, lag=1)",
        "broken": "(schedule, state, *, lag=1)",
        "after": "(schedule, state, deed, *, lag=1)",
        "woven": "(schedule, history, *, lag=1)",
        "all_states": "(schedule, *, lag=1)",
    },
    "judging": {
        "judge": "(schedule, wish, *, lag=1)",
        "is_kept": "(schedule, wish, *, lag=1)",
        "soonest": "(schedule, wish, *, lag=1)",
        "is_right": "(schedule, *, lag=1)",
        "Right": "(states)",
        "Wrong": "(deeds)",
    },
    "lags": {
        "bear": "(schedule)",
        "greatest_lag": "(schedule)",
        "Bears": "(number, states, deeds)",
    },
    "looks": {
        "look_of": "(schedule, *, lag=1)",
        "comes_home": "(schedule, last, *, lag=1)",
        "cheapest": "(width, first, last, prices, limit, *, lag=1)",
        "least_price": "(width, first, last, prices, limit, *, lag=1)",
        "Cheapest": "(way, levels)",
        "NoWay": "(levels)",
    },
    "leaving": {
        "lots": "(schedule, offers)",
        "left_out": "(schedule, offers, lot)",
        "spare": "(schedule, offers, last, *, lag=1)",
        "greatest_lots": "(schedule, offers, last, *, lag=1)",
        "Spared": "(good, fails)",
    },
    "weaving": {
        "plans": "(one, other)",
        "woven_by": "(one, other, plan)",
        "weave": "(one, other, *, lag=1)",
        "least_steps": "(one, other, *, lag=1)",
        "Shortest": "(plan, states, wrongs)",
        "NoPlan": "(wrongs)",
    },
    "backs": {
        "back": "(schedule, begun, prices, limit, *, lag=1)",
        "back_price": "(schedule, begun, prices, limit, *, lag=1)",
        "back_prices": "(schedule, prices, limit, *, lag=1)",
        "Back": "(way, levels)",
        "NoBack": "(levels)",
    },
    "live": {
        "LiveTable": "(schedule, rows, *, lag=1)",
    },
    "texts": {
        "schedule_text": "(schedule)",
        "weaving_text": "(schedule, history, *, lag=1)",
        "read_schedule": "(text)",
        "read_weaving": "(schedule, text, *, lag=1)",
    },
    "stragglers": {
        "stay": "(schedule, *, lag=1)",
        "harmless": "(schedule, *, lag=1)",
        "Stayed": "(good, fails)",
    },
    "waits": {
        "are_right_waits": "(schedule, waits)",
        "wait": "(schedule)",
        "greatest_waits": "(schedule)",
        "Longest": "(good, fails)",
    },
    "repairs": {
        "repaired": "(schedule, repair)",
        "repair": "(schedule, *, lag=1)",
        "least_repair": "(schedule, *, lag=1)",
        "Repair": "(repair, states, fails)",
        "NoRepair": "(fails)",
    },
}
# The classes with a method `shows`, and its parameters.
SHOWS = {
    ("judging", "Right"): "(self, schedule, wish, *, lag=1)",
    ("judging", "Wrong"): "(self, schedule, wish, *, lag=1)",
    ("lags", "Bears"): "(self, schedule)",
    ("looks", "Cheapest"): "(self, width, first, last, prices, limit, *, lag=1)",
    ("looks", "NoWay"): "(self, width, first, last, prices, limit, *, lag=1)",
    ("leaving", "Spared"): "(self, schedule, offers, last, *, lag=1)",
    ("weaving", "Shortest"): "(self, one, other, *, lag=1)",
    ("weaving", "NoPlan"): "(self, one, other, *, lag=1)",
    ("backs", "Back"): "(self, schedule, begun, prices, limit, *, lag=1)",
    ("backs", "NoBack"): "(self, schedule, begun, prices, limit, *, lag=1)",
    ("stragglers", "Stayed"): "(self, schedule, *, lag=1)",
    ("waits", "Longest"): "(self, schedule)",
    ("repairs", "Repair"): "(self, schedule, *, lag=1)",
    ("repairs", "NoRepair"): "(self, schedule, *, lag=1)",
}


def load_tests(loader, tests, pattern):
    tests.addTests(doctest.DocFileSuite("examples.txt"))
    return tests


class Interface(unittest.TestCase):
    def test_names_stand_in_their_files_with_their_parameters(self):
        for part, names in PARTS.items():
            module = importlib.import_module(f"editionlag.{part}")
            for name, parameters in names.items():
                with self.subTest(part=part, name=name):
                    found = getattr(module, name)
                    self.assertEqual(found.__module__, f"editionlag.{part}")
                    self.assertEqual(str(inspect.signature(found)), parameters)

    def test_schedule_defines_its_methods_and_properties_itself(self):
        body = vars(importlib.import_module("editionlag.schedules").Schedule)
        for name in ("__init__", "__len__", "__getitem__", "__iter__", "__eq__", "editions", "with_steps"):
            self.assertIn(name, body)
        for name in ("width", "first", "steps"):
            self.assertIsInstance(body[name], property)
        self.assertEqual(str(inspect.signature(body["with_steps"])), "(self, steps)")

    def test_live_table_defines_its_methods_and_properties_itself(self):
        body = vars(importlib.import_module("editionlag.live").LiveTable)
        methods = {
            "can": "(self)", "do": "(self, deed)", "rows_by": "(self, index, value)", "broken": "(self)",
            "undo": "(self)", "branch": "(self)", "trial": "(self)", "attempt": "(self, work)",
            "tried": "(self, history)", "__len__": "(self)",
        }
        for name, parameters in methods.items():
            self.assertEqual(str(inspect.signature(body[name])), parameters)
        for name in ("now", "journal"):
            self.assertIsInstance(body[name], property)

    def test_classes_with_shows_define_their_methods_themselves(self):
        for (part, name), parameters in SHOWS.items():
            with self.subTest(part=part, name=name):
                body = vars(getattr(importlib.import_module(f"editionlag.{part}"), name))
                for method in ("__init__", "__eq__", "shows"):
                    self.assertIn(method, body)
                self.assertEqual(str(inspect.signature(body["shows"])), parameters)

    def test_wishes(self):
        wishes = importlib.import_module("editionlag.judging").WISHES
        self.assertEqual(wishes, tuple(sorted(wishes)))
        self.assertIs(wishes.__class__, tuple)


if __name__ == "__main__":
    unittest.main()
