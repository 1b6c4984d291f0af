"""The error classes and their attributes."""

import inspect
import unittest

from wornbridges import errors
from wornbridges.errors import BridgeError

# The attributes of each class, with values to make an object of it.
CLASSES = {
    "InvalidTown": {"part": "bridges", "index": 3},
    "InvalidText": {"row": 4},
    "InvalidTrips": {"index": -1},
    "InvalidCount": {},
    "InvalidLife": {},
    "InvalidLoad": {},
    "UnknownPlace": {},
    "UnknownBridge": {},
    "UnknownKind": {},
    "TooManyBridges": {},
    "DifferentTowns": {},
    "Contradiction": {},
    "InvalidWork": {"index": 5},
    "NoTransaction": {},
    "InvalidData": {"offset": 6},
}


class ErrorsTest(unittest.TestCase):
    def test_all_classes_are_there_and_no_others(self):
        defined = [name for name, found in vars(errors).items() if inspect.isclass(found)]
        self.assertEqual(sorted(defined), sorted([*CLASSES, "BridgeError"]))

    def test_base_class(self):
        self.assertEqual(BridgeError.__bases__, (ValueError,))
        for name in CLASSES:
            with self.subTest(name=name):
                self.assertTrue(issubclass(getattr(errors, name), BridgeError))

    def test_no_subclass_of_another_one(self):
        for one in CLASSES:
            for other in CLASSES:
                if one != other:
                    with self.subTest(one=one, other=other):
                        self.assertFalse(issubclass(getattr(errors, one), getattr(errors, other)))

    def test_defined_in_errors(self):
        for name in [*CLASSES, "BridgeError"]:
            with self.subTest(name=name):
                self.assertEqual(getattr(errors, name).__module__, "wornbridges.errors")

    def test_attributes(self):
        for name, attributes in CLASSES.items():
            with self.subTest(name=name):
                made = getattr(errors, name)
                self.assertEqual(vars(made(*attributes.values())), attributes)
                self.assertEqual(vars(made(**attributes)), attributes)

    def test_caught_as_value_error(self):
        with self.assertRaises(ValueError):
            raise errors.InvalidTown("count", 0)


if __name__ == "__main__":
    unittest.main()
