"""The names, the arguments and the places of the interface, as far as it has landed."""

import importlib
import inspect
import unittest

FUNCTIONS = {
    "doneranges.stretches": {
        "plain": ["rows"],
        "joined": ["one", "other"],
        "common": ["one", "other"],
        "less": ["one", "other"],
        "by_many": ["sets", "least"],
        "gaps": ["rows"],
        "within": ["one", "other"],
        "has": ["rows", "house", "number"],
        "amount": ["rows"],
        "whole_to": ["rows", "house"],
    },
    "doneranges.deeds": {
        "ordered": ["deeds"],
        "stretches": ["deeds"],
    },
}


class InterfaceTest(unittest.TestCase):
    def test_each_function_is_defined_in_its_file_with_its_arguments(self):
        for place, functions in FUNCTIONS.items():
            module = importlib.import_module(place)
            for name, arguments in functions.items():
                with self.subTest(place=place, name=name):
                    function = getattr(module, name)
                    self.assertTrue(inspect.isfunction(function))
                    self.assertEqual(function.__module__, place)
                    self.assertEqual(function.__name__, name)
                    told = inspect.signature(function).parameters
                    self.assertEqual(list(told), arguments)
                    for one in told.values():
                        self.assertEqual(one.kind, one.POSITIONAL_OR_KEYWORD)
                        self.assertIs(one.default, one.empty)


if __name__ == "__main__":
    unittest.main()
