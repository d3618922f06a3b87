"""The refusals: what lies under what."""

import unittest

from eventloom import errors

REFUSALS = ("NoWord", "NoHandler", "Twice", "Stranger", "NoCount")


class TestErrors(unittest.TestCase):
    def test_loom_error_is_a_value_error(self):
        self.assertEqual(errors.LoomError.__bases__, (ValueError,))

    def test_each_refusal_lies_straight_under_loom_error(self):
        for name in REFUSALS:
            refusal = getattr(errors, name)
            self.assertEqual(refusal.__bases__, (errors.LoomError,), name)
            self.assertTrue(issubclass(refusal, ValueError), name)

    def test_none_lies_under_another_one(self):
        for low in REFUSALS:
            for high in REFUSALS:
                if low != high:
                    self.assertFalse(issubclass(getattr(errors, low), getattr(errors, high)), (low, high))

    def test_each_is_caught_as_loom_error_and_as_value_error(self):
        for name in REFUSALS:
            for caught in (errors.LoomError, ValueError):
                with self.assertRaises(caught):
                    raise getattr(errors, name)("why")


if __name__ == "__main__":
    unittest.main()
