"""Slides: texts, what is done with one or two slides, errors and their order, edges."""

import unittest

from helpers import Case, ODD, check_defined
from pressworlds import slides
from pressworlds.errors import InvalidNumber, InvalidSide, InvalidText, NotAChange
from pressworlds.points import Point
from pressworlds.rows import Row
from pressworlds.slides import (Slide, do_slides_commute, is_slide_alike, slide_alike, slide_at, slide_gap,
                                slide_often, slide_order, slide_root, slide_then, slide_undone)

TWO = "one other"
FUNCTIONS = {"slide_then": TWO, "slide_undone": "one", "slide_often": "one times", "slide_order": "one",
             "slide_gap": TWO, "slide_at": "one mark", "is_slide_alike": TWO, "slide_alike": TWO,
             "do_slides_commute": TWO, "slide_root": "one degree"}
CLASSES = {"Slide": ("side shift", "__init__ read side shift __str__ __eq__")}
ONE_SLIDE = [slide_undone, slide_order]
TWO_SLIDES = [slide_then, slide_gap, is_slide_alike, slide_alike, do_slides_commute]
NO_SLIDES = ODD + [(1, 2), "ruler + 1", Row(1, "a"), Point((1,)), Slide]
NO_INTEGERS = [None, True, False, "1", "", (1,), [1], (), {}, b"1", object()]
GREAT = 10 ** 30
MANY = 10 ** 39 + 3
SMALL = [Slide(side, shift) for side in (1, -1) for shift in range(-4, 5)]
AHEAD = [Slide(side, shift) for side in (1, -1) for shift in range(-10, 11)]
MARKS = (-3, 0, 1, 8)


class TestClass(Case):
    def test_interface(self):
        check_defined(self, slides, FUNCTIONS, CLASSES)

    def test_properties_by_position_and_by_name(self):
        for side, shift, text in [(1, 5, "ruler + 5"), (-1, 3, "ruler - 3"), (1, -5, "ruler + -5"), (1, 0, "ruler + 0"),
                                  (-1, 0, "ruler - 0"), (-1, -2, "ruler - -2"), (1, GREAT + 1, f"ruler + {GREAT + 1}"),
                                  (-1, -MANY, f"ruler - {-MANY}")]:
            for made in (Slide(side, shift), Slide(side=side, shift=shift), Slide(shift=shift, side=side),
                         Slide.read(text), Slide.read(text=text)):
                self.assertEqual((made.side, made.shift, str(made)), (side, shift, text))
                self.assertIs(bool(made), True)
                self.assertIs(made.side.__class__, int)

    def test_wrong_side_ahead_of_wrong_shift(self):
        for side in NO_INTEGERS + [0, 2, -2, MANY, "+", "-", Slide(1, 1)]:
            for shift in (1, None, "x"):
                self.fails(InvalidSide, side, Slide, side, shift)
                self.fails(InvalidSide, side, Slide, shift=shift, side=side)
        for shift in NO_INTEGERS + [Slide(1, 1), "5"]:
            for side in (1, -1):
                self.fails(InvalidNumber, shift, Slide, side, shift)

    def test_wrong_texts(self):
        wrong = ["ruler", "ruler 1", "ruler + ", "ruler +", "ruler +1", "ruler + +1", "ruler + --1", "ruler + -0",
                 "ruler - -0", "ruler + 01", "ruler - -01", "ruler + 00", "ruler * 1", "ruler ++ 1", "ruler  + 1",
                 "ruler +  1", " ruler + 1", "ruler + 1 ", "ruler + 1\n", "\nruler + 1", "Ruler + 1", "ruler + 1.0",
                 "ruler + 1_0", "ruler + a", "ruler + 1 1", "ruler 1 +", "ruler + 1\nruler + 1", "ruler -1",
                 "ruler + -",
                 "ruler 1 1", "ruler -1 1", "grid 1 1", "rows 1 a", "+ 1", "ruler + 1-", "ruler + 0x1", "ruler + - 1"]
        for text in wrong + ODD:
            self.fails(InvalidText, text, Slide.read, text)
            self.fails(InvalidText, text, Slide.read, text=text)

    def test_equal_exactly_if_texts_are(self):
        for one in SMALL:
            for other in SMALL + [Slide(one.side, one.shift)]:
                self.assertEqual(one == other, str(one) == str(other))
                self.assertEqual(one != other, str(one) != str(other))
        for value in ODD + [(1, 1), "ruler + 1", Point((1,))]:
            self.assertIs(Slide(1, 1) == value, False)
            self.assertIs(value == Slide(1, 1), False)
            self.assertIs(Slide(1, 1) != value, True)

    def test_does_not_change(self):
        made = Slide(1, 2)
        for name in ("side", "shift"):
            with self.assertRaises(AttributeError):
                setattr(made, name, 1)
        slide_then(made, made), slide_often(made, 9), slide_gap(made, Slide(-1, 1))
        self.assertEqual(str(made), "ruler + 2")

    def test_text_of_shifts_with_more_digits_than_python_writes(self):
        made = Slide(1, -7)
        for _ in range(60):
            made = slide_often(made, 10 ** 99)
        self.assertEqual(str(made), "ruler + -7" + "0" * 5940)


class TestDone(Case):
    def test_then_is_where_marks_are_taken(self):
        for one in SMALL:
            for other in SMALL:
                done = self.same_by_name(slide_then, one, other)
                for mark in MARKS:
                    self.assertEqual(slide_at(done, mark), slide_at(one, slide_at(other, mark)))
        self.assertEqual(slide_then(Slide(-1, MANY), Slide(1, GREAT)), Slide(-1, MANY - GREAT))

    def test_at(self):
        self.assertEqual(self.same_by_name(slide_at, Slide(1, 5), 10), 15)
        self.assertEqual(self.same_by_name(slide_at, Slide(-1, 3), 10), -7)
        self.assertEqual(slide_at(Slide(-1, -MANY), MANY), -2 * MANY)

    def test_undone(self):
        for one in SMALL:
            undone = self.same_by_name(slide_undone, one)
            self.assertEqual(slide_then(one, undone), Slide(1, 0))
            self.assertEqual(slide_then(undone, one), Slide(1, 0))

    def test_often(self):
        for one in SMALL:
            for times in range(-5, 6):
                plain = Slide(1, 0)
                for _ in range(abs(times)):
                    plain = slide_then(plain, one if times > 0 else slide_undone(one))
                self.assertEqual(self.same_by_name(slide_often, one, times), plain)
            for times in (2 * MANY, -2 * MANY):
                self.assertEqual(slide_often(one, times), Slide(1, one.shift * times if one.side == 1 else 0))
        self.assertEqual(slide_often(Slide(-1, 3), MANY), Slide(-1, 3))
        self.assertEqual(slide_often(Slide(-1, 3), -MANY), Slide(-1, 3))
        self.assertEqual(slide_often(Slide(1, MANY), MANY), Slide(1, MANY * MANY))

    def test_order(self):
        for one in SMALL:
            plain = next((n for n in range(1, 20) if slide_often(one, n) == Slide(1, 0)), None)
            self.assertEqual(self.same_by_name(slide_order, one), plain)
        self.assertEqual(slide_order(Slide(-1, MANY)), 2)
        self.assertIsNone(slide_order(Slide(1, MANY)))

    def test_gap(self):
        for one in SMALL:
            for other in SMALL:
                plain = slide_then(slide_then(one, other), slide_then(slide_undone(one), slide_undone(other)))
                self.assertEqual(self.same_by_name(slide_gap, one, other), plain)
                commute = self.same_by_name(do_slides_commute, one, other)
                self.assertIs(commute, slide_then(one, other) == slide_then(other, one))
                self.assertIs(commute, plain == Slide(1, 0))
        self.assertEqual(slide_gap(Slide(1, 5), Slide(-1, 3)), Slide(1, 10))

    def test_roots(self):
        for one in SMALL:
            for degree in range(1, 8):
                roots = [root for root in AHEAD if slide_often(root, degree) == one]
                found = self.same_by_name(slide_root, one, degree)
                self.assertEqual(found is None, not roots)
                if found is not None:
                    self.assertEqual(slide_often(found, degree), one)
        self.assertEqual(slide_root(Slide(-1, 7), MANY), Slide(-1, 7))
        self.assertIsNone(slide_root(Slide(-1, 7), MANY + 1))
        self.assertEqual(slide_root(Slide(1, -2 * MANY), MANY), Slide(1, -2))
        self.assertIsNone(slide_root(Slide(1, -2 * MANY + 1), MANY))
        self.assertEqual(slide_often(slide_root(Slide(1, 0), 2), 2), Slide(1, 0))


class TestLikeness(Case):
    def test_against_a_plain_search(self):
        for one in SMALL:
            likes = [slide_then(slide_then(c, one), slide_undone(c)) for c in AHEAD]
            for other in SMALL:
                alike = self.same_by_name(is_slide_alike, one, other)
                self.assertIs(alike, other in likes)
                shown = slide_alike(one, other)
                self.assertEqual(shown is not None, alike)
                if alike:
                    self.assertEqual(slide_then(slide_then(shown, one), slide_undone(shown)), other)
                    self.assertEqual(slide_alike(other=other, one=one), shown)

    def test_turns_are_alike_just_for_even_differences(self):
        for shift in (-MANY, -3, 0, 4, MANY):
            for other in (shift + 2, shift - 6, shift + 2 * MANY, -shift, shift):
                shown = slide_alike(Slide(-1, shift), Slide(-1, other))
                self.assertEqual(slide_then(slide_then(shown, Slide(-1, shift)), slide_undone(shown)), Slide(-1, other))
            for other in (shift + 1, shift - 7, -shift + 1):
                self.assertIs(is_slide_alike(Slide(-1, shift), Slide(-1, other)), False)
                self.assertIsNone(slide_alike(Slide(-1, shift), Slide(-1, other)))

    def test_others_are_alike_just_for_the_same_size(self):
        self.assertIs(is_slide_alike(Slide(1, MANY), Slide(1, -MANY)), True)
        self.assertIs(is_slide_alike(Slide(1, MANY), Slide(1, MANY + 2)), False)
        self.assertIs(is_slide_alike(Slide(1, 0), Slide(-1, 0)), False)
        self.assertIs(is_slide_alike(Slide(1, 3), Slide(-1, 3)), False)
        self.assertIsNotNone(slide_alike(Slide(1, 0), Slide(1, 0)))


class TestErrors(Case):
    def test_no_slide(self):
        good = Slide(1, 2)
        for value in NO_SLIDES:
            for call in ONE_SLIDE:
                self.fails(NotAChange, value, call, value)
                self.fails(NotAChange, value, call, one=value)
            for call in TWO_SLIDES:
                self.fails(NotAChange, value, call, value, good)
                self.fails(NotAChange, value, call, good, value)
                self.fails(NotAChange, value, call, value, None)
                self.fails(NotAChange, value, call, other=None, one=value)
            for call in (slide_often, slide_root, slide_at):
                self.fails(NotAChange, value, call, value, 1)
                self.fails(NotAChange, value, call, value, None)

    def test_no_number(self):
        for value in NO_INTEGERS + [Slide(1, 1)]:
            for call in (slide_often, slide_root, slide_at):
                for one in (Slide(1, 0), Slide(-1, 1)):
                    self.fails(InvalidNumber, value, call, one, value)
        for value in (0, -1, -MANY):
            self.fails(InvalidNumber, value, slide_root, one=Slide(-1, 0), degree=value)


if __name__ == "__main__":
    unittest.main()
