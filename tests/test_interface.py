"""The names, the parameters and the places of all that the interface tells of the modules that are there."""

import importlib
import inspect
import unittest

FUNCTIONS = {
    "checks": ["is_integer(value)", "is_within(value, least, most)"],
    "papers": ["fixed(value)"],
    "rows": ["is_row(value)", "opposite(row)", "size_of(row)", "first_sign(row)", "waves(row)", "sides_of(row)",
             "is_below(one, other)", "row_of(places, lefts, rights)", "rows_of(places)"],
}
CLASSES = {
    "papers": {"Paper(word, *parts)": ["__init__", "__eq__"], "Denial(word, *parts)": ["__init__", "__eq__"]},
}


class Interface(unittest.TestCase):
    def test_functions(self):
        for module, wanted in FUNCTIONS.items():
            held = importlib.import_module("roomstair." + module)
            for each in wanted:
                call = getattr(held, each.partition("(")[0])
                self.assertTrue(inspect.isfunction(call), each)
                self.assertEqual(call.__name__ + str(inspect.signature(call)), each)
                self.assertEqual(call.__module__, held.__name__)

    def test_classes(self):
        for module, wanted in CLASSES.items():
            held = importlib.import_module("roomstair." + module)
            for each, methods in wanted.items():
                made = getattr(held, each.partition("(")[0])
                self.assertTrue(inspect.isclass(made), each)
                self.assertEqual(made.__name__ + str(inspect.signature(made)), each)
                self.assertEqual(made.__module__, held.__name__)
                for method in methods:
                    self.assertIn(method, vars(made), each)


if __name__ == "__main__":
    unittest.main()
