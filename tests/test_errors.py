"""The classes of the refusals."""

import unittest

from fullring import errors
from tests.helping import REFUSALS


class Classes(unittest.TestCase):
    def test_ring_error_is_a_value_error(self):
        self.assertEqual((ValueError,), errors.RingError.__bases__)
        self.assertEqual("fullring.errors", errors.RingError.__module__)

    def test_each_stands_straight_under_ring_error(self):
        for name in REFUSALS:
            with self.subTest(name=name):
                refusal = getattr(errors, name)
                self.assertEqual(name, refusal.__name__)
                self.assertEqual((errors.RingError,), refusal.__bases__)
                self.assertEqual("fullring.errors", refusal.__module__)

    def test_none_is_another_one(self):
        self.assertEqual(7, len({getattr(errors, name) for name in REFUSALS}))


if __name__ == "__main__":
    unittest.main()
