import unittest

from trellis import errors

BELOW = ("BadGraph", "BadEdit", "BadText", "BadQuestion", "NoNumber")


class TheClassesOfErrors(unittest.TestCase):
    def test_the_base_class_is_a_value_error(self):
        self.assertEqual(errors.TrellisError.__bases__, (ValueError,))

    def test_the_others_are_directly_below_the_base_class_only(self):
        for name in BELOW:
            self.assertEqual(getattr(errors, name).__bases__, (errors.TrellisError,), name)

    def test_none_is_below_another_one(self):
        for name in BELOW:
            for other in BELOW:
                below = issubclass(getattr(errors, name), getattr(errors, other))
                self.assertEqual(below, name == other, (name, other))

    def test_they_can_be_raised_with_a_message(self):
        for name in BELOW + ("TrellisError",):
            with self.assertRaises(errors.TrellisError):
                raise getattr(errors, name)("a message")
