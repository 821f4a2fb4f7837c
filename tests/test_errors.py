"""The classes of errors: their bases, and the attributes with which they are made."""

import inspect
import unittest

from helpers import ODD
from pressworlds import errors

BASES = {"WrongValue": ValueError, "WrongName": LookupError, "NotPossible": ArithmeticError}
LISTED = {
    ("WrongValue", "given"): """InvalidText InvalidName InvalidNumber InvalidLetters InvalidWord InvalidSide
        InvalidFactor InvalidZoom InvalidShift InvalidLevels InvalidWalk InvalidPlan InvalidWish InvalidLine
        InvalidNumbers NotAChange NotALot NotALead""",
    ("WrongValue", "index"): "InvalidLamps InvalidChanges InvalidLog",
    ("WrongName", "given"): "UnknownName",
    ("WrongName", "index"): "InUse",
    ("NotPossible", "given"): "OtherWorld TooGreat TooFar TooMany",
    ("NotPossible", "index"): "Broken",
    ("NotPossible", None): "NothingToUndo",
}


def listed():
    return [(getattr(errors, base), attribute, getattr(errors, name))
            for (base, attribute), names in LISTED.items() for name in names.split()]


class TestErrors(unittest.TestCase):
    def test_base_classes(self):
        for name, python in BASES.items():
            base = getattr(errors, name)
            self.assertEqual(base.__bases__, (python,))
            self.assertIs(base().__class__, base)
            self.assertFalse(hasattr(base(), "given") or hasattr(base(), "index"))

    def test_each_class_stands_right_below_its_base(self):
        for base, _, error in listed():
            self.assertEqual(error.__bases__, (base,), error)
            self.assertEqual(error.__module__, "pressworlds.errors")

    def test_there_is_no_other_class(self):
        found = {name for name, value in vars(errors).items() if inspect.isclass(value)}
        self.assertEqual(found, set(BASES) | {error.__name__ for _, _, error in listed()})

    def test_made_by_position_and_by_name_with_anything(self):
        for _, attribute, error in listed():
            for value in ODD:
                if attribute is not None:
                    self.assertIs(getattr(error(value), attribute), value)
                    self.assertIs(getattr(error(**{attribute: value}), attribute), value)
                    with self.assertRaises(error):
                        raise error(value)

    def test_nothing_to_undo_has_no_attribute(self):
        made = errors.NothingToUndo()
        self.assertFalse(hasattr(made, "given") or hasattr(made, "index"))

    def test_others_need_their_attribute(self):
        for _, attribute, error in listed():
            if attribute is not None:
                self.assertRaises(TypeError, error)

    def test_caught_by_the_class_of_python(self):
        for base, attribute, error in listed():
            made = error() if attribute is None else error(1)
            self.assertIsInstance(made, base)
            self.assertIsInstance(made, BASES[base.__name__])
            self.assertEqual([isinstance(made, python) for python in BASES.values()].count(True), 1)


if __name__ == "__main__":
    unittest.main()
