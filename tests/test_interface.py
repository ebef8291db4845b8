"""Each name of the interface is there, and takes its arguments by the names and in the order told."""

import importlib
import inspect
import unittest

FUNCTIONS = [
    ("flat", "flat", ["thing"]),
    ("flat", "flat_size", ["thing"]),
    ("filling", "filled", ["words", "room"]),
    ("laying", "laid", ["thing", "width"]),
    ("measures", "least_width", ["thing"]),
    ("measures", "height", ["thing", "width"]),
    ("measures", "narrowest", ["thing", "most"]),
    ("reading", "is_word", ["text"]),
    ("reading", "read", ["rows"]),
    ("reading", "laid_anew", ["rows", "width"]),
]

CLASSES = [("errors", "FoldError"), ("errors", "NoThing"), ("errors", "NoHeight")]


class Interface(unittest.TestCase):
    def test_functions(self):
        for file, name, arguments in FUNCTIONS:
            with self.subTest(name):
                function = getattr(importlib.import_module("foldrows." + file), name)
                self.assertTrue(inspect.isfunction(function))
                parameters = inspect.signature(function).parameters.values()
                self.assertEqual([parameter.name for parameter in parameters], arguments)
                self.assertTrue(all(parameter.default is parameter.empty for parameter in parameters))

    def test_classes(self):
        for file, name in CLASSES:
            with self.subTest(name):
                self.assertTrue(inspect.isclass(getattr(importlib.import_module("foldrows." + file), name)))


if __name__ == "__main__":
    unittest.main()
