"""Interface, quietsums/errors.py: names, bases, attributes."""

import unittest

from quietsums import errors

ATTRIBUTES = {
    "InvalidModulus": "value", "InvalidNumber": "value", "InvalidWeights": "value", "InvalidSum": "value",
    "InvalidSums": "position", "InvalidNames": "position", "InvalidName": "value", "InvalidWorld": "value",
    "OtherModulus": "given expected", "InvalidShift": "value", "InvalidHands": "position",
    "InvalidStep": "position", "InvalidMoment": "value", "InvalidWatch": "position", "InvalidGroup": "value",
    "InvalidCount": "value", "InvalidBook": "position", "InvalidDoors": "value", "InvalidRelations": "value",
    "InvalidSpaces": "group", "OtherDoors": "name", "InvalidDemand": "position", "InvalidDeal": "position",
    "InvalidError": "value", "InvalidNode": "path", "InvalidWay": "value", "InvalidText": "line",
    "InvalidCommand": "value", "TooMany": "limit",
    "UnknownName": "name", "UnknownHand": "value", "MissingNumber": "name", "MissingName": "name hand",
    "Contradiction": "number", "TiedIns": "relation", "NotQuiet": "index", "NameTaken": "name", "Lost": "target",
}
LOOKUP = ("UnknownName", "UnknownHand", "MissingNumber", "MissingName")
RUNTIME = ("Contradiction", "TiedIns", "NotQuiet", "NameTaken", "Lost")


class Errors(unittest.TestCase):
    def base_of(self, name):
        if name in LOOKUP:
            return LookupError
        return RuntimeError if name in RUNTIME else errors.QuietsumsError

    def test_bases(self):
        self.assertEqual(errors.QuietsumsError.__bases__, (ValueError,))
        self.assertEqual(errors.NothingToUndo.__bases__, (RuntimeError,))
        for name in ATTRIBUTES:
            self.assertEqual(getattr(errors, name).__bases__, (self.base_of(name),), name)

    def test_attributes(self):
        for name, words in ATTRIBUTES.items():
            names = words.split()
            values = [["one"], {"two": 2}][:len(names)]
            for error in (getattr(errors, name)(*values), getattr(errors, name)(**dict(zip(names, values)))):
                self.assertEqual([getattr(error, attribute) for attribute in names], values)
                self.assertEqual(sorted(vars(error)), sorted(names))
                self.assertIsInstance(str(error), str)

    def test_nothing_to_undo_has_a_message(self):
        self.assertEqual(str(errors.NothingToUndo("empty")), "empty")

    def test_no_other_class(self):
        classes = [name for name, value in vars(errors).items() if isinstance(value, type)]
        self.assertEqual(sorted(classes), sorted([*ATTRIBUTES, "QuietsumsError", "NothingToUndo"]))


if __name__ == "__main__":
    unittest.main()
