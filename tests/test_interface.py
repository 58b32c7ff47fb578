"""The interface: each function stands in its file, under its name and with its arguments."""

import importlib
import inspect
import unittest

FUNCTIONS = {
    "clubroll.rolls": {"is_roll": ["names"], "rolled": ["names"]},
    "clubroll.twos": {
        "union": ["one", "other"],
        "both": ["one", "other"],
        "less": ["one", "other"],
        "apart": ["one", "other"],
        "pairs": ["one", "other"],
    },
    "clubroll.manys": {"in_any": ["rolls"], "in_all": ["rolls"], "in_just": ["rolls", "count"]},
    "clubroll.parting": {"shares": ["rolls"], "rolls_from": ["parts", "count"]},
}


class Functions(unittest.TestCase):
    def test_names_and_arguments(self):
        for file, functions in FUNCTIONS.items():
            module = importlib.import_module(file)
            for name, arguments in functions.items():
                with self.subTest(file=file, name=name):
                    function = getattr(module, name)
                    self.assertEqual(function.__module__, file)
                    parameters = inspect.signature(function).parameters
                    self.assertEqual(list(parameters), arguments)
                    for parameter in parameters.values():
                        self.assertIs(parameter.kind, inspect.Parameter.POSITIONAL_OR_KEYWORD)
                        self.assertIs(parameter.default, inspect.Parameter.empty)


if __name__ == "__main__":
    unittest.main()
