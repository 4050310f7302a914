"""The classes of errors, with their attributes."""

import unittest

from neverlouder import errors
from neverlouder.ratios import Ratio

WITH_VALUE = (
    "InvalidNumber InvalidRatio InvalidMany InvalidPoint InvalidCurve InvalidRow InvalidBox InvalidTable "
    "InvalidWeights InvalidBound InvalidClaim InvalidCommand InvalidLinks InvalidNumbers InvalidPaper "
    "InvalidPoints InvalidPositions InvalidRows InvalidShare InvalidSteps InvalidThing InvalidTurn InvalidUnit"
).split()
BOX_ERRORS = {name: ["value"] for name in WITH_VALUE}
BOX_ERRORS.update({
    "InvalidTelling": ["position"], "InvalidLines": ["position"], "InvalidText": ["line"], "TooShort": ["many"],
    "UnlikeSizes": ["first", "second"], "DividedByZero": [],
})
MISSING_ERRORS = {"UnknownLabel": ["value"], "UnknownName": ["value"], "UnknownPoint": ["value"]}
WITHOUT = (
    "NotDoable NoChoice NoBox NoMember NoStep NotAlike NotDone NotKeeper NotNought NotOnRim NotOne NotSteady "
    "NotTwo NothingToRedo NothingToUndo NoughtCurve NoughtStart SamePoint"
).split()
STATE_ERRORS = {name: [] for name in WITHOUT}
STATE_ERRORS.update({
    "CommandFailed": ["position"], "LabelTaken": ["label"], "NameTaken": ["name"], "NoWorth": ["point"],
    "TooLoud": ["position"],
})
FAMILIES = {
    "BoxError": (ValueError, BOX_ERRORS),
    "MissingError": (LookupError, MISSING_ERRORS),
    "StateError": (RuntimeError, STATE_ERRORS),
    "LimitError": (ArithmeticError, {"TooMany": ["what", "limit"]}),
}


class Errors(unittest.TestCase):
    def test_families(self):
        for base, (above, below) in FAMILIES.items():
            held = getattr(errors, base)
            self.assertEqual(held.__bases__, (above,))
            for name in below:
                self.assertEqual(getattr(errors, name).__bases__, (held,), name)
                self.assertEqual(getattr(errors, name).__module__, "neverlouder.errors")

    def test_how_many(self):
        self.assertEqual([len(below) for _, below in FAMILIES.values()], [29, 3, 23, 1])

    def test_attributes(self):
        for _, below in FAMILIES.values():
            for name, attributes in below.items():
                self.look_at(getattr(errors, name), attributes)

    def look_at(self, made, attributes):
        for value in (None, True, 3, "x", [1, []], {}, Ratio(1, 2), object(), ValueError):
            given = {attribute: value for attribute in attributes}
            for error in (made(**given), made(*given.values())):
                self.assertEqual(vars(error), given)
                for attribute in attributes:
                    self.assertIs(getattr(error, attribute), value)

    def test_caught_by_family(self):
        with self.assertRaises(ValueError):
            raise errors.InvalidNumber(1)
        with self.assertRaises(ArithmeticError):
            raise errors.TooMany("degree", 40)


if __name__ == "__main__":
    unittest.main()
