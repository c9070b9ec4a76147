"""Point [1]: the refusals and how they hang together."""

import unittest

from stonesround import errors


class Refusals(unittest.TestCase):
    def test_push_error_is_straight_under_value_error(self):
        self.assertEqual(errors.PushError.__bases__, (ValueError,))

    def test_each_refusal_is_straight_under_push_error(self):
        for kind in (errors.BadWeb, errors.BadPlace, errors.BadStones, errors.BadPush):
            self.assertEqual(kind.__bases__, (errors.PushError,))

    def test_names(self):
        for name in ("PushError", "BadWeb", "BadPlace", "BadStones", "BadPush"):
            self.assertEqual(getattr(errors, name).__name__, name)
            self.assertEqual(getattr(errors, name).__module__, "stonesround.errors")


if __name__ == "__main__":
    unittest.main()
