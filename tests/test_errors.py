"""The section leastimage/errors.py of the interface."""

import inspect
import unittest

from leastimage import errors
from leastimage.errors import ImageError, Missing

IMAGE_ERRORS = {
    "InvalidName": ["value"],
    "InvalidPart": ["value"],
    "InvalidAlignment": ["value"],
    "InvalidScope": ["value"],
    "InvalidRow": ["at"],
    "NotClosing": [],
    "InvalidPiece": ["at"],
    "InvalidOutside": ["at"],
    "InvalidMember": ["at"],
    "InvalidUnit": ["at"],
    "DuplicateName": ["name"],
    "Double": ["name", "first", "second"],
    "TooMany": ["most"],
    "InvalidText": ["line", "why"],
    "InvalidNumber": ["value"],
    "InvalidReach": ["value"],
    "InvalidPage": ["value"],
    "InvalidRoots": [],
    "InvalidNeed": ["at"],
    "NotReady": ["need"],
    "NotLarger": [],
    "NotClosed": ["need"],
    "UnknownRoot": ["name"],
    "Unanswered": ["name", "spot"],
    "NotCode": ["name", "spot"],
    "InvalidBase": ["at"],
    "InvalidImage": ["at"],
    "Overlap": ["at"],
    "Ended": [],
    "Unlinked": ["name", "at"],
    "TooSmall": ["key"],
    "Within": ["spot"],
    "NotReplaced": ["key"],
    "Full": [],
    "NoRun": [],
    "InvalidDeed": ["at"],
}
MISSING = {
    "UnknownName": ["name"],
    "UnknownPiece": ["key"],
    "UnknownPlace": ["spot"],
    "UnknownStub": ["name"],
    "UnknownNeed": ["need"],
    "UnknownImage": ["at"],
}
ALL = {**IMAGE_ERRORS, **MISSING, "NothingLeft": []}
VALUES = [
    [1, "two", (3,)],
    [None, True, -4],
    ["", [1, [2]], ("", "", "main")],
    [ValueError("x"), object(), {"a": 1}],
]


def class_of(name):
    return getattr(errors, name)


class ErrorsTest(unittest.TestCase):
    def check_error(self, error, name, params, values):
        self.assertEqual(error.code, name)
        for param, value in zip(params, values):
            self.assertIs(getattr(error, param), value)
        self.assertIsInstance(str(error), str)

    def test_values_by_place(self):
        for name, params in ALL.items():
            for values in VALUES:
                with self.subTest(name=name, values=values):
                    error = class_of(name)(*values[: len(params)])
                    self.check_error(error, name, params, values)

    def test_values_by_name(self):
        for name, params in ALL.items():
            for values in VALUES:
                with self.subTest(name=name, values=values):
                    error = class_of(name)(**dict(zip(params, values)))
                    self.check_error(error, name, params, values)

    def test_each_value_must_be_given(self):
        for name, params in ALL.items():
            with self.subTest(name=name):
                given = [1] * len(params)
                with self.assertRaises(TypeError):
                    class_of(name)(*given, 1)
                if params:
                    with self.assertRaises(TypeError):
                        class_of(name)(*given[1:])

    def test_attributes_are_just_the_values_and_the_code(self):
        for name, params in ALL.items():
            error = class_of(name)(*[0] * len(params))
            self.assertEqual(sorted(vars(error)), sorted(params + ["code"]), name)

    def test_direct_base_classes(self):
        for name in IMAGE_ERRORS:
            self.assertEqual(class_of(name).__bases__, (ImageError,), name)
        for name in MISSING:
            self.assertEqual(class_of(name).__bases__, (Missing,), name)
        self.assertEqual(errors.NothingLeft.__bases__, (IndexError,))
        self.assertEqual(ImageError.__bases__, (ValueError,))
        self.assertEqual(Missing.__bases__, (LookupError,))

    def test_the_two_bases_have_no_code(self):
        self.assertFalse(hasattr(ImageError("a"), "code"))
        self.assertFalse(hasattr(Missing("a"), "code"))

    def test_no_error_is_one_of_another_class(self):
        for name in ALL:
            for other in ALL:
                if name != other:
                    self.assertFalse(issubclass(class_of(name), class_of(other)))

    def test_each_error_can_be_raised_and_caught(self):
        for name, params in ALL.items():
            with self.assertRaises(class_of(name)):
                raise class_of(name)(*[0] * len(params))

    def test_there_are_no_other_classes(self):
        found = [name for name, _ in inspect.getmembers(errors, inspect.isclass)]
        self.assertEqual(sorted(found), sorted([*ALL, "ImageError", "Missing"]))


if __name__ == "__main__":
    unittest.main()
