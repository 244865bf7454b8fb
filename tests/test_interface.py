"""The interface: each name in its file, with its arguments."""

import importlib
import inspect
import unittest

FUNCTIONS = {
    "rows": {"times": ["one", "other"], "cast": ["row"], "written": ["row"], "read": ["text"]},
    "turning": {"factors": ["row"], "part": ["one", "other"], "turned": ["row"], "turnables": ["places"]},
    "squares": {"squared": ["row"], "side": ["row"], "near_side": ["row", "is_odd", "places"]},
    "slips": {"slips": ["due", "told"]},
    "tables": {"table": ["head"], "faults": ["head", "rows"], "head_of": ["rows"]},
    "problems": {"ways": ["problem"], "answers": ["problem", "name"]},
    "notes": {"problem_text": ["problem"], "problem_of": ["text"]},
}

CLASSES = ("SixtyError", "BadRow", "NotTurned", "NoSide", "BadStep", "BadText")


class Interface(unittest.TestCase):

    def test_functions(self):
        for file, functions in FUNCTIONS.items():
            module = importlib.import_module("sixtyfold." + file)
            for name, arguments in functions.items():
                with self.subTest(file=file, name=name):
                    function = getattr(module, name)
                    self.assertTrue(inspect.isfunction(function))
                    self.assertEqual(function.__module__, "sixtyfold." + file)
                    parameters = inspect.signature(function).parameters.values()
                    self.assertEqual([one.name for one in parameters], arguments)
                    self.assertEqual({one.default for one in parameters}, {inspect.Parameter.empty})

    def test_classes(self):
        module = importlib.import_module("sixtyfold.errors")
        for name in CLASSES:
            with self.subTest(name=name):
                self.assertTrue(inspect.isclass(getattr(module, name)))
                self.assertEqual(getattr(module, name).__module__, "sixtyfold.errors")


if __name__ == "__main__":
    unittest.main()
