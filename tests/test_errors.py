"""The interface's sections halfsetup/errors.py and halfsetup/errors.py (part 2)."""

import unittest

from halfsetup import errors

# Each error with the attributes that the interface lists, in order.
ATTRIBUTES = {
    "InvalidEdition": {"part": "name"},
    "InvalidStore": {"index": 3},
    "UnknownEdition": {},
    "UnknownName": {},
    "InvalidSystem": {"package": "db"},
    "Refused": {"why": ("needs", "lib")},
    "InvalidNumber": {},
    "UnlikeStores": {},
    "TooMany": {},
    "InvalidLayout": {"part": "files", "key": ("db", 1)},
    "InvalidTree": {"path": "run"},
    "InvalidDiversions": {"path": "run"},
    "InvalidAnswer": {},
    "UnknownScript": {"index": 1},
    "UnknownScripts": {"index": 2},
    "NoWay": {},
    "InvalidName": {},
    "UnknownKept": {},
    "InvalidOperation": {"index": 0},
    "NoCall": {},
    "InvalidText": {"row": 4, "word": 5},
    "DecodeError": {"offset": 6},
    "ScriptError": {"row": 7},
    "UnknownPackage": {"row": 8},
    "TooLong": {},
}


class ErrorsTest(unittest.TestCase):
    def test_the_base_class_is_a_value_error(self):
        self.assertEqual(errors.SetupError.__bases__, (ValueError,))

    def test_all_errors_are_direct_subclasses_of_the_base_class(self):
        for name in ATTRIBUTES:
            with self.subTest(name):
                self.assertEqual(getattr(errors, name).__bases__, (errors.SetupError,))

    def test_there_are_no_other_errors(self):
        found = {name for name, thing in vars(errors).items() if isinstance(thing, type)}
        self.assertEqual(found, {"SetupError", *ATTRIBUTES})

    def test_attributes_are_set_when_an_error_is_created(self):
        for name, attributes in ATTRIBUTES.items():
            with self.subTest(name):
                error = getattr(errors, name)(*attributes.values())
                self.assertEqual(vars(error), attributes)
                self.assertIsInstance(str(error), str)


if __name__ == "__main__":
    unittest.main()
