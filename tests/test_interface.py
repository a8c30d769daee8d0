"""The interface: its names and arguments are there as they stand in the document."""

import importlib
import inspect
import unittest

FUNCTIONS = {
    "fractions": {
        "made": ["top", "bottom"],
        "plus": ["one", "other"],
        "minus": ["one", "other"],
        "times": ["one", "other"],
        "over": ["one", "other"],
        "less": ["one", "other"],
    },
    "sayings": {
        "names_of": ["saying"],
        "parts_of": ["saying"],
        "total": ["terms", "point"],
        "is_so": ["saying", "point"],
        "contrary": ["row"],
        "plain": ["saying"],
        "cases": ["saying"],
    },
    "solving": {"met": ["rows"], "added": ["rows", "weights"]},
    "between": {
        "both_so": ["one", "other"],
        "lets_by": ["one", "other", "paper"],
        "between": ["one", "other"],
    },
    "shadows": {"shadow": ["saying", "names"], "filled": ["saying", "names", "point"]},
    "stretches": {"stretch": ["saying", "name"]},
}


class Interface(unittest.TestCase):
    def test_functions_and_their_arguments(self):
        for file, functions in FUNCTIONS.items():
            module = importlib.import_module(f"rowbetween.{file}")
            for name, arguments in functions.items():
                function = getattr(module, name)
                self.assertEqual(list(inspect.signature(function).parameters), arguments, name)
                self.assertEqual(function.__module__, f"rowbetween.{file}")


if __name__ == "__main__":
    unittest.main()
