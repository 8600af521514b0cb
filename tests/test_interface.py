"""The names, arguments and places of what DOC.md's interface lists."""

import importlib
import inspect
import unittest

FUNCTIONS = {
    "soothcheck.kinds": {
        "shown_kind": ["kind"],
        "need_kind": ["kind", "letters"],
        "joined": ["kinds"],
        "put_in": ["kind", "given"],
        "opened": ["kind", "bounds"],
        "narrowed": ["kind", "bounds", "ask"],
    },
    "soothcheck.values": {
        "head_of": ["value"],
        "is_of": ["value", "kind", "standing"],
    },
    "soothcheck.fitting": {
        "fits": ["one", "other", "bounds"],
        "ground": ["one", "other", "bounds"],
        "lean": ["kind", "bounds"],
    },
    "soothcheck.programs": {
        "need_program": ["program"],
    },
    "soothcheck.checking": {
        "check": ["program"],
        "must_pass": ["program"],
        "found_kind": ["program", "name"],
    },
    "soothcheck.running": {
        "run": ["program", "name", "told", "breath"],
    },
    "soothcheck.telling": {
        "shown": ["program"],
    },
    "soothcheck.reading": {
        "read": ["text"],
        "read_kind": ["text"],
    },
}


class Interface(unittest.TestCase):

    def test_each_function_takes_what_is_listed_and_stands_in_its_file(self):
        for place, functions in FUNCTIONS.items():
            for name, params in functions.items():
                with self.subTest(place=place, name=name):
                    found = getattr(importlib.import_module(place), name)
                    self.assertTrue(inspect.isfunction(found))
                    self.assertEqual(found.__module__, place)
                    self.assertEqual(list(inspect.signature(found).parameters), params)


if __name__ == "__main__":
    unittest.main()
