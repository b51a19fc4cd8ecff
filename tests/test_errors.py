"""The interface of movehouse.errors: MoveError and the nine classes straight under it."""

import unittest

from movehouse import errors

NAMES = ("BadWorld", "NoCaller", "NoHouse", "NoKey", "BadWish", "Busy", "Idle", "NotHere", "NoLetter")


class MoveErrorTest(unittest.TestCase):
    def test_is_a_value_error(self):
        self.assertEqual(errors.MoveError.__bases__, (ValueError,))

    def test_is_defined_in_its_file(self):
        self.assertEqual(errors.MoveError.__module__, "movehouse.errors")

    def test_keeps_its_message(self):
        self.assertEqual(str(errors.MoveError("some words")), "some words")


class KindsTest(unittest.TestCase):
    def test_each_stands_straight_under_move_error(self):
        for name in NAMES:
            with self.subTest(name=name):
                self.assertEqual(getattr(errors, name).__bases__, (errors.MoveError,))

    def test_none_stands_under_another(self):
        for name in NAMES:
            for other in NAMES:
                if name != other:
                    with self.subTest(name=name, other=other):
                        self.assertFalse(issubclass(getattr(errors, name), getattr(errors, other)))

    def test_each_is_a_class_of_its_own_in_its_file(self):
        for name in NAMES:
            with self.subTest(name=name):
                self.assertEqual(getattr(errors, name).__name__, name)
                self.assertEqual(getattr(errors, name).__module__, "movehouse.errors")

    def test_there_are_no_other_kinds(self):
        self.assertEqual({kind.__name__ for kind in errors.MoveError.__subclasses__()}, set(NAMES))

    def test_each_is_caught_as_move_error_and_as_value_error(self):
        for name in NAMES:
            for caught in (errors.MoveError, ValueError):
                with self.subTest(name=name, caught=caught.__name__):
                    with self.assertRaises(caught):
                        raise getattr(errors, name)("some words")


if __name__ == "__main__":
    unittest.main()
