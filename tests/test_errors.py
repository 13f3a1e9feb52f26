"""[0.2] and the interface of errors."""

import unittest

from millhands import errors
from tests.support import WRONG

PARAMETERS = {
    "BadBook": ("part",), "BadText": ("line",), "BadWeb": ("thing",), "OtherLetters": (), "TooMany": ("most",),
    "BadReader": ("part",), "BadTeller": ("part",), "BadFan": ("part",), "BadWeft": ("thing",),
    "Merged": ("web", "further"), "TooLong": ("most",), "BadCourse": ("place",), "BadWish": ("thing",),
    "Unsound": ("outcome",), "BadProgram": ("part",), "BadDuel": ("part",), "Lost": ("paper",), "NotNow": (),
    "NoMove": ("letter",), "NothingToUndo": (), "NothingToRedo": (), "BadRow": ("thing",), "BadPlace": ("place",),
    "Full": ("part",), "NoHand": ("number",), "Waits": ("number",), "BadDeed": ("thing",), "NoWish": ("number",),
    "BadName": ("name",), "NoName": ("name",), "BadPromise": ("thing",), "Broken": ("promise", "paper"),
    "NoMill": (), "InvalidCommand": (),
}


class Errors(unittest.TestCase):
    def test_base(self):
        self.assertEqual(errors.MillError.__bases__, (Exception,))

    def test_all_are_direct_subclasses(self):
        found = {name for name, held in vars(errors).items() if isinstance(held, type) and name != "MillError"}
        self.assertEqual(found, set(PARAMETERS))
        for name in PARAMETERS:
            self.assertEqual(getattr(errors, name).__bases__, (errors.MillError,))

    def test_parameters_are_attributes(self):
        for name, parameters in PARAMETERS.items():
            kind = getattr(errors, name)
            for value in WRONG:
                by_place = kind(*[value for _ in parameters])
                by_name = kind(**{parameter: value for parameter in parameters})
                for parameter in parameters:
                    self.assertIs(getattr(by_place, parameter), value)
                    self.assertIs(getattr(by_name, parameter), value)

    def test_two_parameters_in_order(self):
        self.assertEqual((errors.Merged("a", "b").web, errors.Merged("a", "b").further), ("a", "b"))
        self.assertEqual((errors.Broken(1, 2).promise, errors.Broken(1, 2).paper), (1, 2))
