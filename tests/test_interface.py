"""The names, the arguments and the places of the interface."""

import importlib
import inspect
import unittest

FUNCTIONS = {
    "doneranges.stretches": {
        "plain": ["rows"],
        "joined": ["one", "other"],
        "common": ["one", "other"],
        "less": ["one", "other"],
        "by_many": ["sets", "least"],
        "gaps": ["rows"],
        "within": ["one", "other"],
        "has": ["rows", "house", "number"],
        "amount": ["rows"],
        "whole_to": ["rows", "house"],
    },
    "doneranges.deeds": {
        "ordered": ["deeds"],
        "stretches": ["deeds"],
    },
    "doneranges.stores": {
        "worths": ["deeds"],
        "alive": ["deeds"],
        "void": ["deeds"],
    },
    "doneranges.cutting": {
        "why_not": ["house", "maker", "number"],
        "closing": ["house"],
        "cut": ["house", "maker", "number"],
        "copy": ["house"],
        "renew": ["house", "told"],
    },
    "doneranges.leads": {
        "wrongly": ["lead", "dones"],
    },
    "doneranges.sending": {
        "plan": ["dones", "bases"],
    },
    "doneranges.worlds": {
        "played": ["many", "events"],
    },
    "doneranges.notes": {
        "written": ["rows"],
        "written_deed": ["deed"],
        "read": ["text"],
        "read_deed": ["text"],
    },
}

CLASSES = {
    "doneranges.houses": {
        "House": {
            "__init__": ["me", "many"],
            "do": ["word", "key", "worth"],
            "back": ["house", "number"],
            "seal": [],
            "bye": [],
            "take": ["deeds"],
            "done": [],
            "deeds": [],
            "cut_off": [],
            "worths": [],
            "alive": [],
            "byes": [],
            "lacks": ["rows"],
            "gives": ["rows"],
            "gave_up": ["rows"],
            "now": [],
            "number": [],
            "count": [],
        },
    },
    "doneranges.leads": {
        "Seat": {
            "__init__": [],
            "hold": ["rows"],
            "ask": ["term"],
            "keep": ["term", "rows"],
            "holds": [],
            "last_term": [],
        },
        "Lead": {
            "__init__": ["many"],
            "heard": ["seat", "rows"],
            "begin": ["rows"],
            "kept": ["seat", "rows"],
            "must": [],
            "shown": [],
            "leads": [],
        },
    },
}


class InterfaceTest(unittest.TestCase):
    def defined_here(self, function, place, name, arguments):
        self.assertTrue(inspect.isfunction(function))
        self.assertEqual((function.__module__, function.__name__), (place, name))
        told = inspect.signature(function).parameters
        self.assertEqual(list(told), arguments)
        for one in told.values():
            self.assertEqual(one.kind, one.POSITIONAL_OR_KEYWORD)
            self.assertIs(one.default, one.empty)

    def test_each_function_is_defined_in_its_file_with_its_arguments(self):
        for place, functions in FUNCTIONS.items():
            module = importlib.import_module(place)
            for name, arguments in functions.items():
                with self.subTest(place=place, name=name):
                    self.defined_here(getattr(module, name), place, name, arguments)

    def test_each_method_is_defined_in_its_class_with_its_arguments(self):
        for place, classes in CLASSES.items():
            module = importlib.import_module(place)
            for kind, methods in classes.items():
                told = getattr(module, kind)
                self.assertEqual((told.__module__, told.__name__), (place, kind))
                for name, arguments in methods.items():
                    with self.subTest(place=place, kind=kind, name=name):
                        self.defined_here(vars(told)[name], place, name, ["self"] + arguments)


if __name__ == "__main__":
    unittest.main()
