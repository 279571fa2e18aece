"""The errors that the interface lists: each class, its base class and its fields."""

import unittest

from keptbywitness import errors

PLAIN = (
    "NoRoot", "NotObject", "NoField", "NoEntry", "NoObject", "WrongMessage", "Inconsistent",
    "NoReport", "NotKept", "NotOpen", "LogFull", "PowerCut", "NoLetter", "Reclaims",
)


class ErrorsTest(unittest.TestCase):
    def test_base_class(self):
        self.assertEqual(errors.KeepError.__bases__, (ValueError,))
        self.assertIsInstance(errors.KeepError("some words"), ValueError)

    def test_no_class_is_below_another_one(self):
        for name in PLAIN + ("OutOfRange", "Impossible"):
            with self.subTest(name=name):
                self.assertEqual(getattr(errors, name).__bases__, (errors.KeepError,))

    def test_plain_errors_are_made_with_one_string(self):
        for name in PLAIN:
            with self.subTest(name=name):
                made = getattr(errors, name)("why it is so")
                self.assertEqual(str(made), "why it is so")
                self.assertEqual(vars(made), {})

    def test_out_of_range_has_a_name(self):
        self.assertEqual(errors.OutOfRange("group").name, "group")
        with self.assertRaises(errors.KeepError) as caught:
            raise errors.OutOfRange("torn")
        self.assertEqual(caught.exception.name, "torn")
        self.assertEqual(vars(caught.exception), {"name": "torn"})

    def test_impossible_has_a_step(self):
        self.assertEqual(errors.Impossible(0).step, 0)
        with self.assertRaises(errors.KeepError) as caught:
            raise errors.Impossible(17)
        self.assertEqual(caught.exception.step, 17)
        self.assertEqual(vars(caught.exception), {"step": 17})

    def test_errors_can_be_told_from_each_other(self):
        with self.assertRaises(errors.NoRoot):
            try:
                raise errors.NoRoot("no such root")
            except (errors.NoField, errors.NoEntry, errors.OutOfRange):
                self.fail("caught as another kind")


if __name__ == "__main__":
    unittest.main()
