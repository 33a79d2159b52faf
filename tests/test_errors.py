"""The errors: the interface of plinth/errors.py."""

import unittest

from plinth import errors

WITH_MESSAGE = [
    "NotText", "NotNumeral", "BadFuel", "BadClaim", "BadTrap", "NotPlantable", "NotPlanted",
    "BadName", "BadKind", "OutOfRange", "NotBalanced", "BadPayload", "OpenTrial",
]
WITH_NAME = ["BadPlan", "NoEntry", "NoRung", "NotGrown"]
WITH_AT = ["Malformed", "NotWritable", "NotListable", "NotLinkable", "BadSave"]
ALL = WITH_MESSAGE + WITH_NAME + WITH_AT + ["BadJournal"]


class ErrorsTest(unittest.TestCase):
    def test_each_is_under_the_base_class_and_under_no_other_one(self):
        classes = {value for value in vars(errors).values() if isinstance(value, type)}
        self.assertIn(ValueError, errors.PlinthError.__mro__)
        for name in ALL:
            kind = getattr(errors, name)
            above = [other for other in classes if issubclass(kind, other)]
            self.assertEqual({kind, errors.PlinthError}, set(above), name)

    def test_there_are_no_others(self):
        found = {name for name, value in vars(errors).items() if isinstance(value, type)}
        self.assertEqual(set(ALL) | {"PlinthError"}, found)

    def test_message(self):
        for name in WITH_MESSAGE:
            self.assertEqual("why it failed", str(getattr(errors, name)("why it failed")))

    def test_name(self):
        for name in WITH_NAME:
            self.assertEqual("abc", getattr(errors, name)("abc").name)

    def test_at(self):
        for name in WITH_AT:
            self.assertEqual(17, getattr(errors, name)(17).at)

    def test_row(self):
        self.assertEqual(3, errors.BadJournal(3).row)


if __name__ == "__main__":
    unittest.main()
