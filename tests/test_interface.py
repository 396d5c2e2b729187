"""The names and arguments that the interface lists, each defined in its own file."""

import importlib
import inspect
import unittest

FUNCTIONS = {
    "textatrest.versions": {
        "includes": ["one", "other"],
        "joined": ["one", "other"],
        "knows": ["deed", "other"],
        "time_of": ["deed"],
    },
    "textatrest.acts": {
        "is_writing": ["act"],
        "signs_of": ["act"],
        "is_act": ["act"],
    },
    "textatrest.paths": {
        "comes_before": ["one", "other"],
        "step_of": ["deed", "index"],
    },
    "textatrest.histories": {
        "version_of": ["hands", "history"],
        "clock_for": ["history", "seen"],
        "within": ["history", "version"],
        "is_active": ["history", "deed"],
        "is_final": ["history", "bound", "deed"],
        "has_left": ["history", "hand"],
        "is_shown": ["history", "sign"],
        "is_dead": ["history", "bound", "sign"],
        "path": ["history", "sign"],
        "signs": ["history"],
        "shown": ["history"],
        "text": ["history"],
        "is_allowed": ["history", "hands", "bound", "deed"],
    },
    "textatrest.throwing": {
        "acknowledged": ["hands", "history", "own", "hand"],
        "is_gone": ["hands", "bound", "history", "own", "sign"],
        "kept": ["hands", "bound", "history", "own"],
        "witness": ["hands", "bound", "history", "own", "sign"],
        "fault": ["hands", "bound", "history", "own", "sign", "course"],
    },
    "textatrest.records": {
        "write_deed": ["deed"],
        "read_deed": ["hands", "text"],
    },
    "textatrest.blocks": {
        "encode_record": ["number", "text"],
        "decode_piece": ["block"],
    },
    "textatrest.log": {
        "format_disk": ["disk", "hands", "number", "bound"],
        "open_log": ["disk"],
    },
}

CLASSES = {
    ("textatrest.hands", "Hand"): {
        "__init__": ["self", "hands", "number", "bound"],
        "put": ["self", "at", "text"],
        "cut": ["self", "at", "many"],
        "mark": ["self", "at", "many", "value"],
        "toggle": ["self", "number"],
        "note": ["self"],
        "leave": ["self"],
        "do": ["self", "act"],
        "hear": ["self", "deeds"],
        "number": ["self"],
        "version": ["self"],
        "has_left": ["self"],
        "waiting": ["self"],
        "history": ["self"],
        "news": ["self", "hand"],
        "text": ["self"],
        "shown": ["self"],
        "kept": ["self"],
    },
    ("textatrest.disks", "Disk"): {
        "__init__": ["self", "blocks"],
        "size": ["self"],
        "read": ["self", "at"],
        "write": ["self", "at", "block"],
        "flush": ["self"],
        "pending_count": ["self"],
        "cut_count": ["self"],
        "cut_power": ["self", "torn"],
        "schedule_cut": ["self", "many", "torn"],
    },
    ("textatrest.log", "Log"): {
        "head": ["self"],
        "deeds": ["self"],
        "append": ["self", "deed"],
        "room": ["self", "deeds"],
        "sync": ["self"],
        "free_blocks": ["self"],
    },
    ("textatrest.house", "House"): {
        "__init__": ["self", "disk"],
        "do": ["self", "act"],
        "hear": ["self", "deeds"],
        "news": ["self", "hand"],
        "sync": ["self"],
        "history": ["self"],
        "version": ["self"],
        "text": ["self"],
        "shown": ["self"],
        "kept": ["self"],
        "has_left": ["self"],
        "free_blocks": ["self"],
    },
    ("textatrest.link", "Link"): {
        "__init__": ["self", "hands", "bound", "blocks"],
        "do": ["self", "hand", "act"],
        "sync": ["self", "hand"],
        "send": ["self", "hand", "to"],
        "letters": ["self"],
        "drop": ["self", "at"],
        "duplicate": ["self", "at"],
        "deliver": ["self", "at"],
        "histories": ["self"],
        "text": ["self", "hand"],
        "kept": ["self", "hand"],
        "is_open": ["self", "hand"],
        "cut_power": ["self", "hand", "torn"],
        "schedule_cut": ["self", "hand", "many", "torn"],
        "reopen": ["self", "hand"],
    },
}

NUMBERS = {
    "textatrest.acts": {"RUN_MOST": 8, "SIGNS_MOST": 8},
    "textatrest.disks": {"BLOCK": 32, "BLOCKS_MOST": 400},
    "textatrest.blocks": {"PIECE": 24, "PIECES_MOST": 10},
}


class Interface(unittest.TestCase):
    def test_functions_stand_in_their_files_with_their_arguments(self):
        for place, listed in FUNCTIONS.items():
            module = importlib.import_module(place)
            for name, arguments in listed.items():
                with self.subTest(place=place, name=name):
                    found = getattr(module, name)
                    self.assertTrue(inspect.isfunction(found))
                    self.assertEqual(found.__module__, place)
                    self.assertEqual(list(inspect.signature(found).parameters), arguments)

    def test_classes_stand_in_their_files_with_their_own_methods(self):
        for (place, name), listed in CLASSES.items():
            found = getattr(importlib.import_module(place), name)
            self.assertTrue(inspect.isclass(found))
            self.assertEqual(found.__module__, place)
            for method, arguments in listed.items():
                with self.subTest(place=place, name=name, method=method):
                    own = vars(found)[method]
                    self.assertTrue(inspect.isfunction(own))
                    self.assertEqual(list(inspect.signature(own).parameters), arguments)

    def test_numbers(self):
        for place, listed in NUMBERS.items():
            module = importlib.import_module(place)
            for name, number in listed.items():
                with self.subTest(place=place, name=name):
                    self.assertEqual(getattr(module, name), number)


if __name__ == "__main__":
    unittest.main()
