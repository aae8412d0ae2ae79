"""The names, arguments and defaults of the interface, and where each is defined."""

import importlib
import inspect
import unittest

FUNCTIONS = {
    "values": """is_whole(value) is_fraction(value) is_between(value, low, high) put_at(row, place, value)""",
    "names": """is_name(value) is_path(value) signs_of_paths() is_lesser(path, other)""",
    "patterns": """is_pattern(value) body_of(pattern) places(pattern, path) next_places(pattern, places, sign)
        meets(pattern, path) least_path(met, unmet) covers(pattern, other) are_apart(pattern, other)""",
}


class TestInterface(unittest.TestCase):
    def test_functions(self):
        for name, told in FUNCTIONS.items():
            module = importlib.import_module("gentlerounds." + name)
            for signature in " ".join(told.split()).replace(") ", ")\n").split("\n"):
                word = signature.partition("(")[0]
                function = getattr(module, word)
                self.assertEqual(word + str(inspect.signature(function)), signature)
                self.assertTrue(inspect.isfunction(function))
                self.assertEqual(function.__module__, module.__name__)


if __name__ == "__main__":
    unittest.main()
