"""Promise 1: the errors, their bases, constructors, attributes and codes."""

import inspect
import unittest

from turnsleft import errors
from turnsleft.errors import Impossible, NotThere, TurnError

BY_TURN_ERROR = {
    "BadRatio": (), "BadText": (), "BadLine": ("line",), "BadTop": (), "BadStart": (), "BadLength": ("at",),
    "BadOrder": (), "BadRow": ("at",), "OffLine": ("at",), "Overlap": ("one", "other"), "NotFilled": ("missing",),
    "OtherLine": (), "BadRoom": (), "BadSwap": ("at",), "Meet": (), "BadWedge": (), "BadReading": (), "BadWindow": (),
    "BadName": ("value",), "BadNumber": ("value",), "BadDeed": ("at",), "BadExchange": (), "BadLimit": ("value",),
    "Double": ("name",), "TooMany": ("most",), "Unlike": ("colour",), "OtherSteps": (), "NothingLeft": (),
    "OwesMore": ("name",),
}
BY_NOT_THERE = {"NotOnLine": ("tone",), "NoPrime": ("value",), "UnknownName": ("name",), "NotIn": ()}
BY_IMPOSSIBLE = {
    "NotFair": ("first", "second"), "NotKept": (), "Odd": ("prime",), "NoRoot": ("first", "second"),
    "Unfit": ("counts",), "Unmade": ("reading",), "TooLong": ("most",), "Level": (),
}
BY_INDEX_ERROR = {"NoEntry": ()}


class ErrorsTest(unittest.TestCase):
    def check(self, table, base):
        for name, names in table.items():
            kind = getattr(errors, name)
            self.assertEqual(kind.__bases__, (base,), name)
            values = [("value", at, None) for at in range(len(names))]
            for error in (kind(*values), kind(**dict(zip(names, values)))):
                self.assertEqual(error.code, name)
                for attribute, value in zip(names, values):
                    self.assertIs(getattr(error, attribute), value)
            self.assertRaises(TypeError, kind, *values, 1)
            if names:
                self.assertRaises(TypeError, kind)

    def test_classes(self):
        self.check(BY_TURN_ERROR, TurnError)
        self.check(BY_NOT_THERE, NotThere)
        self.check(BY_IMPOSSIBLE, Impossible)
        self.check(BY_INDEX_ERROR, IndexError)

    def test_bases(self):
        self.assertEqual(TurnError.__bases__, (ValueError,))
        self.assertEqual(NotThere.__bases__, (LookupError,))
        self.assertEqual(Impossible.__bases__, (ArithmeticError,))
        for kind in (TurnError, NotThere, Impossible):
            self.assertFalse(hasattr(kind(), "code"))

    def test_no_other_classes(self):
        found = {name for name, kind in inspect.getmembers(errors, inspect.isclass)}
        named = [*BY_TURN_ERROR, *BY_NOT_THERE, *BY_IMPOSSIBLE, *BY_INDEX_ERROR]
        self.assertEqual(found, {"TurnError", "NotThere", "Impossible", *named})

    def test_values_of_any_kind(self):
        for value in (None, True, [1], ("a", [None]), errors.BadTop):
            self.assertIs(errors.NotOnLine(value).tone, value)
            self.assertIs(errors.Overlap(value, 1).one, value)
            self.assertIs(errors.Overlap(one=1, other=value).other, value)

    def test_caught_by_base(self):
        with self.assertRaises(ValueError):
            raise errors.OffLine(3)
        with self.assertRaises(LookupError):
            raise errors.NotIn()
        with self.assertRaises(ArithmeticError):
            raise errors.Level()
        with self.assertRaises(IndexError):
            raise errors.NoEntry()


if __name__ == "__main__":
    unittest.main()
