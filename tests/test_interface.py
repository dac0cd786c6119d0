"""The interface: each name is there, with its arguments as they are told."""

import importlib
import inspect
import unittest

INTERFACE = (
    ("webs", "look_web", ("web",)),
    ("webs", "look_set", ("web", "some")),
    ("marking", "steps_at", ("web", "some")),
    ("marking", "closure", ("web", "some")),
    ("marking", "marks_all", ("web", "some")),
    ("marking", "rounds", ("web", "some")),
    ("marking", "gone", ("web", "some", "steps")),
    ("marking", "all_steps", ("web", "some")),
    ("marking", "chains", ("web", "some", "steps")),
    ("marking", "turned", ("web", "some", "steps")),
    ("forts", "is_fort", ("web", "some")),
    ("forts", "left_over", ("web", "some")),
    ("forts", "least_fort", ("web", "some")),
    ("forts", "forts", ("web",)),
    ("fewest", "beginnings", ("web", "size")),
    ("fewest", "fewest", ("web",)),
    ("fewest", "quickest", ("web", "size")),
    ("fewest", "most_failing", ("web",)),
    ("fewest", "stuck", ("web", "some")),
    ("fewest", "told", ("web", "size")),
    ("fewest", "cases", ("web", "some", "more")),
    ("fewest", "shows", ("web", "some", "more", "tree")),
    ("texts", "written", ("web",)),
    ("texts", "read", ("text",)),
)


class Interface(unittest.TestCase):
    def test_names_and_arguments(self):
        for file, name, arguments in INTERFACE:
            with self.subTest(file=file, name=name):
                ask = getattr(importlib.import_module("forcemark." + file), name)
                self.assertEqual(tuple(inspect.signature(ask).parameters), arguments)
                self.assertEqual(ask.__module__, "forcemark." + file)


if __name__ == "__main__":
    unittest.main()
