"""The examples of the interface, as they stand; later sections use names of earlier ones."""

import doctest
import os
import unittest

HERE = os.path.dirname(os.path.abspath(__file__))
SECTIONS = ["rows", "rowlots", "folds", "points", "pointlots", "slides", "slidelots", "views", "viewlots", "rounds",
            "roundlots", "moves", "movelots", "worlds", "leads", "fewest", "boards"]


class TestExamples(unittest.TestCase):
    def test_all_sections_in_their_order(self):
        names = {}
        for section in SECTIONS:
            with open(os.path.join(HERE, "examples", section + ".txt"), encoding="ascii") as file:
                text = file.read()
            test = doctest.DocTestParser().get_doctest(text, names, section, None, 0)
            self.assertGreater(len(test.examples), 1)
            told = []
            result = doctest.DocTestRunner(verbose=False).run(test, out=told.append, clear_globs=False)
            names = test.globs
            self.assertEqual(result.failed, 0, "".join(told))


if __name__ == "__main__":
    unittest.main()
