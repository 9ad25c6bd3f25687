"""[Z2]: the limits."""

import unittest

from echofields import bounds

LIMITS = {
    "BATCH": 20, "HISTORY": 40, "MAX_FAR": 1000000000000000000, "MAX_FIELDS": 4, "MAX_FILLINGS": 36,
    "MAX_LINKS": 6, "MAX_MOMENTS": 3000, "MAX_RING": 8, "MAX_ROW": 200, "MAX_SIZE": 6,
}


class BoundsTest(unittest.TestCase):
    def test_limits_are_these_integers(self):
        for name, number in LIMITS.items():
            with self.subTest(name=name):
                self.assertIs(getattr(bounds, name).__class__, int)
                self.assertEqual(getattr(bounds, name), number)


if __name__ == "__main__":
    unittest.main()
