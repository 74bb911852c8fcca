"""The exceptions that the interface lists."""

import unittest

from callbells import errors
from callbells.setups import Setup
from callbells.single import Single

from helpers import Case, DISK, usual

# The classes with their attributes, in the order in which the document gives them.
CLASSES = {
    "InvalidSetup": ("part", "index"),
    "UnknownLine": ("line",),
    "NotLevel": ("line",),
    "InvalidNumber": (),
    "InvalidFlag": (),
    "InvalidBell": ("index",),
    "TooMany": (),
    "NotPlain": (),
    "TooDense": ("line",),
    "InvalidLog": ("index",),
    "NotationError": ("row", "word"),
    "InvalidHouse": ("part", "index"),
    "UnknownProcessor": ("processor",),
    "NotOn": (),
    "LastOne": (),
    "AlreadyOn": (),
    "NotWaiting": (),
    "NotAllowed": (),
    "InvalidMove": ("index",),
    "InvalidRings": ("index",),
    "NotEdges": (),
    "OtherLines": (),
    "InvalidClock": ("index",),
    "UnknownWork": ("work",),
    "TooLong": (),
    "InvalidDeed": ("index",),
    "DiaryError": ("row",),
}

VALUES = {"part": "routes", "index": 3, "line": "net", "row": 2, "word": 5, "processor": 4, "work": "flush"}


class ErrorsTest(Case):
    def test_base(self):
        self.assertEqual(errors.BellError.__bases__, (ValueError,))

    def test_direct_subclasses(self):
        for name in CLASSES:
            with self.subTest(name=name):
                self.assertEqual(getattr(errors, name).__bases__, (errors.BellError,))

    def test_defined_in_their_file(self):
        for name in ["BellError", *CLASSES]:
            with self.subTest(name=name):
                self.assertEqual(getattr(errors, name).__module__, "callbells.errors")

    def test_attributes(self):
        for name, attributes in CLASSES.items():
            with self.subTest(name=name):
                error = getattr(errors, name)(*[VALUES[attribute] for attribute in attributes])
                self.assertEqual(vars(error), {attribute: VALUES[attribute] for attribute in attributes})
                str(error)

    def test_raised_ones_have_their_attributes_alone(self):
        self.assertEqual(vars(self.raises(errors.InvalidSetup, Setup, ())), {"part": "lines", "index": 0})
        self.assertEqual(vars(self.raises(errors.UnknownLine, Single(usual()).ring, "fan")), {"line": "fan"})
        self.assertEqual(vars(self.raises(errors.NotLevel, Single(usual()).quiet, "net")), {"line": "net"})
        self.assertEqual(vars(self.raises(errors.InvalidNumber, Single(usual()).ticks, -1)), {})
        self.assertEqual(vars(self.raises(errors.InvalidFlag, Single(usual()).set_flag, 8)), {})
        self.assertEqual(vars(self.raises(errors.NotationError, Setup.parse, "")), {"row": 0, "word": 0})

    def test_all_are_caught_as_value_errors(self):
        with self.assertRaises(ValueError):
            Setup((DISK, DISK))
        with self.assertRaises(errors.BellError):
            Setup((DISK, DISK))


if __name__ == "__main__":
    unittest.main()
