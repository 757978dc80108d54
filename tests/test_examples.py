"""The examples of the interface, and the names, files and parameters that it lists."""

import doctest
import importlib
import inspect
import unittest

PARTS = {
    "schedules": {
        "Schedule": "(width, first, steps)",
        "window": "(schedule, begun, *, lag=1)",
    },
    "states": {
        "first_state": "(schedule)",
        "deeds": "(schedule, state, *, lag=1)",
        "broken": "(schedule, state, *, lag=1)",
        "after": "(schedule, state, deed, *, lag=1)",
        "woven": "(schedule, history, *, lag=1)",
        "all_states": "(schedule, *, lag=1)",
    },
}


def load_tests(loader, tests, pattern):
    tests.addTests(doctest.DocFileSuite("examples.txt"))
    return tests


class Interface(unittest.TestCase):
    def test_names_stand_in_their_files_with_their_parameters(self):
        for part, names in PARTS.items():
            module = importlib.import_module(f"editionlag.{part}")
            for name, parameters in names.items():
                with self.subTest(part=part, name=name):
                    found = getattr(module, name)
                    self.assertEqual(found.__module__, f"editionlag.{part}")
                    self.assertEqual(str(inspect.signature(found)), parameters)

    def test_schedule_defines_its_methods_and_properties_itself(self):
        body = vars(importlib.import_module("editionlag.schedules").Schedule)
        for name in ("__init__", "__len__", "__getitem__", "__iter__", "__eq__", "editions", "with_steps"):
            self.assertIn(name, body)
        for name in ("width", "first", "steps"):
            self.assertIsInstance(body[name], property)
        self.assertEqual(str(inspect.signature(body["with_steps"])), "(self, steps)")


if __name__ == "__main__":
    unittest.main()
