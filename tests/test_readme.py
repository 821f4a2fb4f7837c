"""The example of the README."""

import doctest
import os
import unittest

README = os.path.join(os.path.dirname(os.path.dirname(os.path.abspath(__file__))), "README.md")


class TestReadme(unittest.TestCase):
    def test_example(self):
        result = doctest.testfile(README, module_relative=False, verbose=False)
        self.assertEqual(result.failed, 0)
        self.assertGreater(result.attempted, 2)


if __name__ == "__main__":
    unittest.main()
