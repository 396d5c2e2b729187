"""The names and arguments that the interface lists, each defined in its own file."""

import importlib
import inspect
import unittest

FUNCTIONS = {
    "textatrest.versions": {
        "includes": ["one", "other"],
        "joined": ["one", "other"],
        "knows": ["deed", "other"],
        "time_of": ["deed"],
    },
    "textatrest.acts": {
        "is_writing": ["act"],
        "signs_of": ["act"],
        "is_act": ["act"],
    },
    "textatrest.paths": {
        "comes_before": ["one", "other"],
        "step_of": ["deed", "index"],
    },
    "textatrest.histories": {
        "version_of": ["hands", "history"],
        "clock_for": ["history", "seen"],
        "within": ["history", "version"],
        "is_active": ["history", "deed"],
        "is_final": ["history", "bound", "deed"],
        "has_left": ["history", "hand"],
        "is_shown": ["history", "sign"],
        "is_dead": ["history", "bound", "sign"],
        "path": ["history", "sign"],
        "signs": ["history"],
        "shown": ["history"],
        "text": ["history"],
        "is_allowed": ["history", "hands", "bound", "deed"],
    },
    "textatrest.throwing": {
        "acknowledged": ["hands", "history", "own", "hand"],
        "is_gone": ["hands", "bound", "history", "own", "sign"],
        "kept": ["hands", "bound", "history", "own"],
        "witness": ["hands", "bound", "history", "own", "sign"],
        "fault": ["hands", "bound", "history", "own", "sign", "course"],
    },
}


class Interface(unittest.TestCase):
    def test_functions_stand_in_their_files_with_their_arguments(self):
        for place, listed in FUNCTIONS.items():
            module = importlib.import_module(place)
            for name, arguments in listed.items():
                with self.subTest(place=place, name=name):
                    found = getattr(module, name)
                    self.assertTrue(inspect.isfunction(found))
                    self.assertEqual(found.__module__, place)
                    self.assertEqual(list(inspect.signature(found).parameters), arguments)


if __name__ == "__main__":
    unittest.main()
