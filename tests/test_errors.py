"""The classes of errors: what they keep, and what they stand under ([4])."""

import unittest

from planehall import errors
from tests.helpers import STRAY

GIVEN = (
    "InvalidFraction", "InvalidNumber", "InvalidPoint", "InvalidPlace", "InvalidWay", "InvalidCurve", "InvalidLead",
    "InvalidFigure", "InvalidSketch", "InvalidScene", "InvalidName", "UnknownName", "NameTaken", "InUse", "ComesRound",
    "TooDeep", "TooMany", "InvalidIndex", "InvalidCount", "InvalidView", "InvalidPicture",
)
INDEX = ("InvalidCurves", "InvalidRow", "InvalidLines", "InvalidBytes")
SPOT = ("BadText",)
BARE = ("NotBounded", "NothingInside", "NotStraight", "NothingToUndo", "NothingToRedo")
ATTRIBUTES = (("given", GIVEN), ("index", INDEX), ("spot", SPOT))
ALL = GIVEN + INDEX + SPOT + BARE
VALUES = STRAY + (0, 1, -1, 10 ** 5000, (1, 2), [1, [2]], "text\n", (1, 0, -2, True), {"given": 1}, ValueError("x"))


class Errors(unittest.TestCase):
    def test_each_stands_under_the_base_alone(self):
        for name in ALL:
            kind = getattr(errors, name)
            self.assertEqual(kind.__bases__, (errors.PlaneError,), name)
            self.assertEqual(kind.__name__, name)
            self.assertEqual(kind.__module__, "planehall.errors")
            self.assertEqual((kind() if name in BARE else kind(None)).kind(), name)
        self.assertEqual(errors.PlaneError.__bases__, (ValueError,))
        self.assertEqual(errors.PlaneError.__module__, "planehall.errors")

    def test_all_are_unlike(self):
        self.assertEqual(len({getattr(errors, name) for name in ALL}), 31)
        for name in ALL:
            for other in ALL:
                kind, second = getattr(errors, name), getattr(errors, other)
                self.assertEqual(issubclass(kind, second), name == other)

    def test_attributes_by_position_and_by_name(self):
        for attribute, names in ATTRIBUTES:
            for name in names:
                kind = getattr(errors, name)
                for value in VALUES:
                    self.assertIs(getattr(kind(value), attribute), value)
                    self.assertIs(getattr(kind(**{attribute: value}), attribute), value)

    def test_each_has_one_attribute_alone(self):
        for attribute, names in ATTRIBUTES:
            for name in names:
                error = getattr(errors, name)(1)
                for other, _ in ATTRIBUTES:
                    self.assertEqual(hasattr(error, other), other == attribute, (name, other))

    def test_two_of_one_class_keep_their_own(self):
        first, second = errors.InvalidNumber(1), errors.InvalidNumber(given=2)
        self.assertEqual((first.given, second.given), (1, 2))

    def test_those_without_attributes(self):
        for name in BARE + ("PlaneError",):
            error = getattr(errors, name)()
            for attribute, _ in ATTRIBUTES:
                self.assertFalse(hasattr(error, attribute), name)

    def test_all_can_be_raised_and_caught_by_the_base(self):
        for name in GIVEN + INDEX + SPOT:
            with self.assertRaises(errors.PlaneError) as caught:
                raise getattr(errors, name)((1, 2))
            self.assertIs(caught.exception.__class__, getattr(errors, name))
        for name in BARE:
            with self.assertRaises(errors.PlaneError):
                raise getattr(errors, name)()
        with self.assertRaises(ValueError):
            raise errors.PlaneError()


if __name__ == "__main__":
    unittest.main()
