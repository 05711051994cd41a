"""The errors: their bases, their attributes, and how they are made."""

import unittest

from twoabove import errors
from twoabove.stores import Store

VALUES = (
    "InvalidBoard InvalidCounts InvalidHistory InvalidKind InvalidLot InvalidOrder InvalidPosition InvalidRow "
    "InvalidShelf InvalidShelves InvalidStore InvalidWeights InvalidWished InvalidChanges InvalidClaim InvalidCommand "
    "InvalidDeed InvalidDeliveries InvalidHeight InvalidLevel InvalidLots InvalidNumber InvalidPaper InvalidPositions "
    "InvalidSales InvalidTotal"
).split()
STATES = "UnlikeShelves NotBelow NotCome NotCustom NothingToRedo NothingToUndo".split()
TOLD = {
    "StoreError": (ValueError, None),
    "MissingError": (LookupError, None),
    "StateError": (RuntimeError, None),
    "LimitError": (ArithmeticError, None),
    "InvalidLines": (errors.StoreError, ["position"]),
    "InvalidText": (errors.StoreError, ["position"]),
    "UnknownLabel": (errors.MissingError, ["value"]),
    "UnknownName": (errors.MissingError, ["value"]),
    "BarredAt": (errors.StateError, ["position"]),
    "CommandFailed": (errors.StateError, ["position"]),
    "LabelTaken": (errors.StateError, ["label"]),
    "NameTaken": (errors.StateError, ["name"]),
    "TooMany": (errors.LimitError, ["what", "limit"]),
}
TOLD.update({name: (errors.StoreError, ["value"]) for name in VALUES})
TOLD.update({name: (errors.StateError, []) for name in STATES})
SOME_VALUES = (None, True, -3, "word", b"", [], [[0]], (0, 1), {}, {"a": []}, {1}, object(), Store(2, [], []))


class ErrorsTest(unittest.TestCase):
    def test_there_are_just_these(self):
        classes = [name for name, value in vars(errors).items() if isinstance(value, type)]
        self.assertEqual(sorted(classes), sorted(TOLD))

    def test_direct_bases(self):
        for name, (base, _) in TOLD.items():
            self.assertEqual(getattr(errors, name).__bases__, (base,), name)

    def test_attributes_by_place_and_by_name(self):
        for name, (_, attributes) in TOLD.items():
            for value in SOME_VALUES:
                if attributes is None:
                    continue
                values = [value] + [7] * (len(attributes) - 1)
                values = values[:len(attributes)]
                made = [getattr(errors, name)(*values), getattr(errors, name)(**dict(zip(attributes, values)))]
                for error in made:
                    self.assertEqual(vars(error), dict(zip(attributes, values)), name)
                    self.assertIsInstance(str(error), str)
                    self.assertRaises(getattr(errors, name), self.throw, error)

    def test_second_attribute(self):
        for value in SOME_VALUES:
            error = errors.TooMany(limit=value, what="kinds")
            self.assertEqual((error.what, error.limit), ("kinds", value))

    def throw(self, error):
        raise error


if __name__ == "__main__":
    unittest.main()
