"""The limits, as the interface lists them."""

import unittest

from pressworlds import limits

LISTED = {"MOST_LETTERS": 4, "MOST_ROW": 400, "MOST_SMALL_ROW": 12, "MOST_WIDTH": 3, "MOST_NUMBER": 10 ** 30,
          "MOST_FACTOR": 5, "MOST_ZOOM": 400, "MOST_LAMPS": 400, "MOST_TOLD": 5, "MOST_DEPTH": 5, "MOST_PLACES": 60,
          "MOST_PRESSES": 6, "MOST_FOUND": 5000}


class TestLimits(unittest.TestCase):
    def test_all_that_are_listed(self):
        for name, value in LISTED.items():
            self.assertEqual(getattr(limits, name), value, name)
            self.assertIs(getattr(limits, name).__class__, int, name)


if __name__ == "__main__":
    unittest.main()
