"""Point 4: the errors."""

import unittest

from batchnumbers import errors

WITH_AT = ["InvalidMachine", "InvalidRow", "InvalidChange", "InvalidQuestion", "InvalidText", "Refused"]


class ErrorsTest(unittest.TestCase):

    def test_all_derive_directly_from_batch_error(self):
        self.assertEqual(errors.BatchError.__bases__, (ValueError,))
        for name in WITH_AT + ["InvalidCommand"]:
            self.assertEqual(getattr(errors, name).__bases__, (errors.BatchError,), name)

    def test_any_value_is_kept(self):
        for name in WITH_AT:
            for at in [0, 17, None, "x", [1], (), -3]:
                self.assertEqual(getattr(errors, name)(at).at, at)
            kept = [1]
            self.assertIs(getattr(errors, name)(at=kept).at, kept)
            with self.assertRaises(TypeError):
                getattr(errors, name)()

    def test_each_is_caught_as_itself_alone(self):
        for name in WITH_AT:
            with self.assertRaises(errors.BatchError) as caught:
                raise getattr(errors, name)(5)
            for other in WITH_AT:
                self.assertEqual(isinstance(caught.exception, getattr(errors, other)), other == name)
            self.assertEqual(caught.exception.at, 5)

    def test_invalid_command_has_no_argument(self):
        with self.assertRaises(ValueError):
            raise errors.InvalidCommand()
