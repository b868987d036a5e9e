"""The refusals: their classes and fields."""

import unittest

from doneranges import errors
from doneranges.errors import BadDeed, BadEvent, BadStretches, BadText, DoneError

NAMES = ["BadStretches", "NoHouse", "BadCount", "BadDeed", "NoDeed", "BadText", "NotYet", "TooOld", "BadEvent"]


class ErrorsTest(unittest.TestCase):
    def test_each_is_a_done_error_and_under_no_other_one(self):
        self.assertEqual(DoneError.__bases__, (ValueError,))
        for name in NAMES:
            kind = getattr(errors, name)
            with self.subTest(name):
                self.assertEqual(kind.__mro__[1:], DoneError.__mro__)
                self.assertEqual(kind.__module__, "doneranges.errors")

    def test_fields_are_set_when_they_are_created(self):
        for kind in (BadStretches, BadDeed, BadEvent):
            for at in (0, 5, 300):
                self.assertEqual(vars(kind(at)), {"at": at})
        self.assertEqual(vars(BadText(4)), {"place": 4})

    def test_the_others_need_no_field(self):
        for name in NAMES:
            if name not in ("BadStretches", "BadDeed", "BadEvent", "BadText"):
                with self.assertRaises(DoneError):
                    raise getattr(errors, name)("why")


if __name__ == "__main__":
    unittest.main()
