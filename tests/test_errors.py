"""[14], [2]: the error classes."""

import unittest

from handeddown import errors

BASES = {
    "NoWants": RuntimeError, "Clashing": RuntimeError, "IsRoot": RuntimeError,
    "Locked": LookupError, "Below": LookupError,
    "BadText": ValueError, "BadLine": ValueError,
}
VALUES = {
    "NoWants": (), "Clashing": (), "IsRoot": (), "Locked": ("x",), "Below": ("x", "y"), "BadText": (), "BadLine": (3,),
}


class ErrorClasses(unittest.TestCase):
    def test_each_has_its_builtin_class_as_its_only_base(self):
        for name, base in BASES.items():
            with self.subTest(name=name):
                self.assertEqual(getattr(errors, name).__bases__, (base,))

    def test_each_is_defined_in_this_file_under_its_name(self):
        for name in BASES:
            with self.subTest(name=name):
                self.assertEqual(getattr(errors, name).__module__, "handeddown.errors")
                self.assertEqual(getattr(errors, name).__name__, name)

    def test_each_is_caught_by_its_own_class(self):
        for name, values in VALUES.items():
            with self.subTest(name=name):
                kind = getattr(errors, name)
                with self.assertRaises(kind) as caught:
                    raise kind(*values)
                self.assertIs(type(caught.exception), kind)

    def test_each_is_caught_by_its_builtin_class(self):
        for name, values in VALUES.items():
            with self.subTest(name=name):
                with self.assertRaises(BASES[name]):
                    raise getattr(errors, name)(*values)

    def test_none_is_caught_by_another_class_of_the_package(self):
        for name, values in VALUES.items():
            error = getattr(errors, name)(*values)
            for other in BASES:
                with self.subTest(name=name, other=other):
                    self.assertEqual(isinstance(error, getattr(errors, other)), name == other)


class Attributes(unittest.TestCase):
    def test_locked_stores_the_folder(self):
        self.assertEqual(errors.Locked("x").folder, "x")
        self.assertEqual(errors.Locked(folder="abc").folder, "abc")

    def test_below_stores_folder_and_parent(self):
        error = errors.Below("x", "y")
        self.assertEqual((error.folder, error.parent), ("x", "y"))

    def test_below_takes_its_values_by_names_in_any_order(self):
        error = errors.Below(parent="y", folder="x")
        self.assertEqual((error.folder, error.parent), ("x", "y"))
        error = errors.Below("x", parent="x")
        self.assertEqual((error.folder, error.parent), ("x", "x"))

    def test_bad_line_stores_the_number(self):
        for number in (0, 1, 17, 80):
            with self.subTest(number=number):
                self.assertEqual(errors.BadLine(number).number, number)
                self.assertEqual(errors.BadLine(number=number).number, number)
        self.assertIs(type(errors.BadLine(0).number), int)

    def test_each_object_has_its_own_values(self):
        one, two = errors.Locked("x"), errors.Locked("y")
        self.assertEqual((one.folder, two.folder), ("x", "y"))
        low, high = errors.BadLine(1), errors.BadLine(2)
        self.assertEqual((low.number, high.number), (1, 2))

    def test_values_are_there_when_the_error_is_caught(self):
        with self.assertRaises(LookupError) as caught:
            raise errors.Below("x", "y")
        self.assertEqual((caught.exception.folder, caught.exception.parent), ("x", "y"))
        with self.assertRaises(ValueError) as caught:
            raise errors.BadLine(5)
        self.assertEqual(caught.exception.number, 5)


if __name__ == "__main__":
    unittest.main()
