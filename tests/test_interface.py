"""The names and arguments that the interface lists, each defined in its own file."""

import importlib
import inspect
import unittest

FUNCTIONS = {
    "textatrest.versions": {
        "includes": ["one", "other"],
        "joined": ["one", "other"],
        "knows": ["deed", "other"],
        "time_of": ["deed"],
    },
    "textatrest.acts": {
        "is_writing": ["act"],
        "signs_of": ["act"],
        "is_act": ["act"],
    },
}


class Interface(unittest.TestCase):
    def test_functions_stand_in_their_files_with_their_arguments(self):
        for place, listed in FUNCTIONS.items():
            module = importlib.import_module(place)
            for name, arguments in listed.items():
                with self.subTest(place=place, name=name):
                    found = getattr(module, name)
                    self.assertTrue(inspect.isfunction(found))
                    self.assertEqual(found.__module__, place)
                    self.assertEqual(list(inspect.signature(found).parameters), arguments)


if __name__ == "__main__":
    unittest.main()
