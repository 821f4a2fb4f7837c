"""Points: texts, what is done with one or two points, errors and their order, edges."""

import itertools
import unittest

from helpers import Case, ODD, check_defined
from pressworlds import points
from pressworlds.errors import InvalidNumber, InvalidNumbers, InvalidText, NotAChange, OtherWorld
from pressworlds.points import (Point, do_points_commute, is_point_alike, point_alike, point_gap, point_often,
                                point_order, point_root, point_then, point_undone)
from pressworlds.rows import Row
from pressworlds.slides import Slide

TWO = "one other"
FUNCTIONS = {"point_then": TWO, "point_undone": "one", "point_often": "one times", "point_order": "one",
             "point_gap": TWO, "is_point_alike": TWO, "point_alike": TWO, "do_points_commute": TWO,
             "point_root": "one degree"}
CLASSES = {"Point": ("numbers", "__init__ read numbers __str__ __len__ __eq__")}
TWO_POINTS = [point_then, point_gap, is_point_alike, point_alike, do_points_commute]
ONE_POINT = [point_undone, point_order]
NO_POINTS = [value for value in ODD] + [(1, 2), "grid 1 1", Row(1, "a"), Slide(1, 2), Point]
GREAT = 10 ** 30
MANY = 10 ** 39 + 3


def grid(width, most):
    return [Point(numbers) for numbers in itertools.product(range(-most, most + 1), repeat=width)]


class TestClass(Case):
    def test_interface(self):
        check_defined(self, points, FUNCTIONS, CLASSES)

    def test_properties_by_position_and_by_name(self):
        for numbers, text in [((3, -4), "grid 2 3 -4"), ((0,), "grid 1 0"), ((1, 0, -1), "grid 3 1 0 -1"),
                              ((GREAT, -GREAT - 1), f"grid 2 {GREAT} {-GREAT - 1}"), ((MANY,), f"grid 1 {MANY}")]:
            for made in (Point(numbers), Point(numbers=numbers), Point.read(text), Point.read(text=text)):
                self.assertEqual((made.numbers, str(made), len(made)), (numbers, text, len(numbers)))
                self.assertIs(bool(made), True)

    def test_wrong_numbers(self):
        wrong = [value for value in ODD if value != (1,)] + [(1, 2, 3, 4), (1, True), (False,), (None, 1), ([1], 2),
                                                            ((1,), 2), ("1",), (1, "2"), [1, 2], {1, 2}, Point((1,)),
                                                            (1, 2, None), (0, 0, 0, 0), ((1, 2),)]
        for value in wrong:
            self.fails(InvalidNumbers, value, Point, value)
            self.fails(InvalidNumbers, value, Point, numbers=value)

    def test_wrong_texts(self):
        wrong = ["grid", "grid 1", "grid 0", "grid 2 1", "grid 1 1 2", "grid 4 1 2 3 4", "grid 1 -0", "grid 1 01",
                 "grid 1 -01", "grid 2 0 -0", "grid 1 +1", "grid 1 --1", "grid 1 -", "grid 1 1 ", "grid 1 1\n",
                 " grid 1 1", "grid  1 1", "grid 1  1", "grid 01 1", "grid +1 1", "grid -1 1", "Grid 1 1", "grid1 1",
                 "grid 1 1.0", "grid 1 1_0", "grid 1 1e3", "grid 1 a", "grid 2 1, 2", "grid 1 1\ngrid 1 1", "1 1",
                 "grid 1 00", "grid 1 0x1", "rows 1 a", "ruler + 1", "grid 2 1 2 3", "grid 3 1 2", "grid 1 1-",
                 "grid 1 - 1", "grid 2 -1 - 1", "\ngrid 1 1"]
        for text in wrong + ODD:
            self.fails(InvalidText, text, Point.read, text)
            self.fails(InvalidText, text, Point.read, text=text)

    def test_equal_exactly_if_texts_are(self):
        some = grid(1, 1) + grid(2, 1) + grid(3, 1)[:5]
        for one in some:
            for other in some:
                self.assertEqual(one == other, str(one) == str(other))
                self.assertEqual(one != other, str(one) != str(other))
        for value in ODD + [(1,), "grid 1 1", Row(1, "a"), Slide(1, 1)]:
            self.assertIs(Point((1,)) == value, False)
            self.assertIs(value == Point((1,)), False)
            self.assertIs(Point((1,)) != value, True)

    def test_does_not_change(self):
        made = Point((1, 2))
        with self.assertRaises(AttributeError):
            made.numbers = (3,)
        point_then(made, made), point_often(made, 9), point_undone(made)
        self.assertEqual(str(made), "grid 2 1 2")

    def test_text_of_numbers_with_more_digits_than_python_writes(self):
        made = Point((7, -1))
        for _ in range(110):
            made = point_often(made, 10 ** 99)
        self.assertEqual(str(made), "grid 2 7" + "0" * 10890 + " -1" + "0" * 10890)
        less = point_then(made, Point((-1, 1)))
        self.assertEqual(str(less), "grid 2 6" + "9" * 10890 + " -" + "9" * 10890)
        self.assertNotEqual(made, less)
        self.assertEqual(Point.read("grid 1 -" + "12345" * 700).numbers, (-int("12345" * 700),))


class TestDone(Case):
    def test_then_undone_often(self):
        for width in (1, 2):
            for one in grid(width, 2):
                for other in grid(width, 2):
                    done = self.same_by_name(point_then, one, other)
                    self.assertEqual(done.numbers, tuple(x + y for x, y in zip(one.numbers, other.numbers)))
                undone = self.same_by_name(point_undone, one)
                self.assertEqual(undone.numbers, tuple(-x for x in one.numbers))
                for times in (-3, -1, 0, 1, 2, MANY, -MANY):
                    often = self.same_by_name(point_often, one, times)
                    self.assertEqual(often.numbers, tuple(times * x for x in one.numbers))
        self.assertEqual(point_then(Point((GREAT, 1, MANY)), Point((GREAT, -1, MANY))).numbers,
                         (2 * GREAT, 0, 2 * MANY))

    def test_order_and_gap(self):
        for one in grid(1, 2) + grid(3, 1):
            still = not any(one.numbers)
            self.assertEqual(self.same_by_name(point_order, one), 1 if still else None)
            gap = self.same_by_name(point_gap, one, one)
            self.assertEqual(gap.numbers, (0,) * len(one))
        self.assertIsNone(point_order(Point((0, 0, MANY))))
        self.assertEqual(point_gap(Point((MANY, 2)), Point((3, -MANY))), Point((0, 0)))

    def test_likeness(self):
        for one in grid(2, 1):
            for other in grid(2, 1):
                alike = self.same_by_name(is_point_alike, one, other)
                self.assertIs(alike, one == other)
                shown = point_alike(one, other)
                self.assertEqual(shown is None, one != other)
                if shown is not None:
                    self.assertEqual(point_then(point_then(shown, one), point_undone(shown)), other)
                    self.assertEqual(point_alike(other=other, one=one), shown)
                self.assertIs(self.same_by_name(do_points_commute, one, other), True)

    def test_roots(self):
        for one in grid(2, 6):
            for degree in (1, 2, 3, 6, 7):
                roots = [root for root in grid(2, 6) if point_often(root, degree) == one]
                found = self.same_by_name(point_root, one, degree)
                self.assertEqual([found] if found is not None else [], roots)
        self.assertEqual(point_root(Point((MANY * 6, 0, -MANY)), MANY), Point((6, 0, -1)))
        self.assertIsNone(point_root(Point((MANY * 6, 1, -MANY)), MANY))
        self.assertEqual(point_root(Point((0, 0)), MANY), Point((0, 0)))


class TestErrors(Case):
    def test_no_point(self):
        good = Point((1, 2))
        for value in NO_POINTS:
            for call in ONE_POINT:
                self.fails(NotAChange, value, call, value)
                self.fails(NotAChange, value, call, one=value)
            for call in TWO_POINTS:
                self.fails(NotAChange, value, call, value, good)
                self.fails(NotAChange, value, call, good, value)
                self.fails(NotAChange, value, call, value, None)
                self.fails(NotAChange, value, call, other=Point((1,)), one=value)
            for call in (point_often, point_root):
                self.fails(NotAChange, value, call, value, 1)
                self.fails(NotAChange, value, call, value, None)

    def test_other_world(self):
        for call in TWO_POINTS:
            for other in (Point((1,)), Point((1, 2, 3))):
                self.fails(OtherWorld, other, call, Point((1, 2)), other)
                self.fails(OtherWorld, other, call, other=other, one=Point((1, 2)))

    def test_no_number(self):
        for value in [None, True, False, "1", (1,), [1], (), {}, b"1", Point((1,))]:
            self.fails(InvalidNumber, value, point_often, Point((1,)), value)
            self.fails(InvalidNumber, value, point_root, Point((1,)), value)
        for value in (0, -1, -MANY):
            self.fails(InvalidNumber, value, point_root, Point((0,)), value)


if __name__ == "__main__":
    unittest.main()
