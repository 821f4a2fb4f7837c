"""Lots of points: texts, forms, cosets, plans, common parts, rings, rests, orders, counts; errors and their order."""

import itertools
import math
import random
import unittest

from helpers import Case, ODD, check_defined, flat
from pressworlds import pointlots
from pressworlds.errors import InvalidChanges, InvalidPlan, InvalidText, NotAChange, NotALot, OtherWorld
from pressworlds.pointlots import (PointLot, needless_points, order_in_rest, point_cosets, point_counts, point_doing,
                                   point_form, point_makes, point_meet, point_plan, point_rest, point_rings,
                                   points_within, same_points)
from pressworlds.points import Point, point_often
from pressworlds.rowlots import RowLot
from pressworlds.rows import Row
from pressworlds.slides import Slide

LOTS, CHANGE = "lot other_lot", "lot change"
FUNCTIONS = {"point_form": "lot", "point_cosets": "lot", "point_makes": CHANGE, "point_plan": CHANGE,
             "point_doing": "lot plan", "same_points": LOTS, "points_within": LOTS, "point_meet": LOTS,
             "needless_points": "lot", "point_rings": "lot", "point_rest": CHANGE, "order_in_rest": CHANGE,
             "point_counts": CHANGE}
CLASSES = {"PointLot": ("changes", "__init__ read changes text __str__ __len__ __eq__")}
ONE_LOT = [point_form, point_cosets, needless_points, point_rings]
TWO_LOTS = [same_points, points_within, point_meet]
WITH_CHANGE = [point_makes, point_plan, point_rest, order_in_rest, point_counts]
GREAT = 10 ** 30
MANY = 10 ** 39 + 3


def lot(*rows):
    return PointLot(tuple(Point(numbers) for numbers in rows))


def random_lot(rng, width, many, most):
    return lot(*(tuple(rng.randint(-most, most) for _ in range(width)) for _ in range(many)))


def box(width, most):
    return list(itertools.product(range(-most, most + 1), repeat=width))


def determinant(rows):
    """Return the determinant by the signs of all orders of the columns."""
    total = 0
    for order in itertools.permutations(range(len(rows))):
        sign = (-1) ** sum(order[i] > order[j] for i in range(len(order)) for j in range(i + 1, len(order)))
        total += sign * math.prod(row[column] for row, column in zip(rows, order))
    return total


def divisors(rows, width):
    """Return the greatest common divisors of all square parts of size 1, 2 and so on."""
    return [math.gcd(0, *(determinant([[row[column] for column in columns] for row in chosen])
                          for chosen in itertools.combinations(rows, size)
                          for columns in itertools.combinations(range(width), size)))
            for size in range(1, width + 1)]


def is_sum(rows, numbers):
    """Return whether numbers are a sum of rows: with them no greatest square part gets a smaller divisor."""
    before, after = divisors(rows, len(numbers)), divisors(list(rows) + [numbers], len(numbers))
    size = sum(divisor != 0 for divisor in before)
    return size == sum(divisor != 0 for divisor in after) and (size == 0 or before[size - 1] == after[size - 1])


def told(made):
    return [point.numbers for point in made.changes]


class TestClass(Case):
    def test_interface(self):
        check_defined(self, pointlots, FUNCTIONS, CLASSES)

    def test_properties(self):
        points = (Point((1, -2)), Point((0, 0)), Point((GREAT, -GREAT)))
        text = f"grid 2 1 -2\ngrid 2 0 0\ngrid 2 {GREAT} {-GREAT}"
        for made in (PointLot(points), PointLot(changes=points), PointLot.read(text), PointLot.read(text=text)):
            self.assertEqual((made.changes, made.text, str(made), len(made)), (points, text, text, 3))
            self.assertIs(made.changes.__class__, tuple)

    def test_does_not_change(self):
        made = lot((1, 2))
        for name in ("changes", "text"):
            with self.assertRaises(AttributeError):
                setattr(made, name, None)
        point_form(made), point_plan(made, Point((2, 4))), point_meet(made, made)
        self.assertEqual(made, lot((1, 2)))

    def test_equal_exactly_if_texts_are(self):
        some = [lot((1,)), lot((1,), (1,)), lot((-1,)), lot((1, 0)), lot((0, 1)), lot((1,), (2,)), lot((2,), (1,))]
        for one in some:
            for other in some:
                self.assertEqual(one == other, str(one) == str(other))
                self.assertEqual(one != other, str(one) != str(other))
        for value in ODD + [Point((1,)), "grid 1 1", (Point((1,)),)]:
            self.assertIs(lot((1,)) == value, False)
            self.assertIs(value == lot((1,)), False)

    def test_wrong_changes(self):
        good = Point((1, 2))
        for value in ODD + [[good], good, "grid 2 1 2", lot((1, 2))]:
            if not isinstance(value, tuple) or not value:
                self.fails(InvalidChanges, None, PointLot, value)
                self.fails(InvalidChanges, None, PointLot, changes=value)
        for value in ODD + [(1, 2), lot((1, 2)), (good,), Point((1,)), Point((1, 2, 3)), Point((GREAT + 1, 0)),
                            Point((0, -GREAT - 1)), Row(2, "a"), Slide(1, 1)]:
            for at in range(1, 5):
                self.fails(InvalidChanges, at, PointLot, (good,) * at + (value,))
                self.fails(InvalidChanges, at, PointLot, (good,) * at + (value, None, good, good, good, good))
        for value in ODD + [Point((0, GREAT + 1))]:
            self.fails(InvalidChanges, 0, PointLot, (value, good))
        self.fails(InvalidChanges, 5, PointLot, (good,) * 6)
        self.fails(InvalidChanges, 5, PointLot, (good,) * 5 + (None,))
        self.fails(InvalidChanges, 1, PointLot, (Point((1,)), good, Point((1,))))
        self.assertEqual(len(PointLot((good,) * 5)), 5)
        for numbers in ((GREAT, -GREAT), (GREAT,), (0, 0, -GREAT)):
            self.assertEqual(len(lot(numbers)), 1)

    def test_wrong_texts(self):
        wrong = ["", "\n", "grid 1 1\n", "\ngrid 1 1", "grid 1 1\n\ngrid 1 1", "grid 1 1\ngrid 2 1 1", "grid 1 -0",
                 "\n".join(["grid 1 1"] * 6), f"grid 1 {GREAT + 1}", f"grid 1 {-GREAT - 1}", "grid 1 01",
                 "grid 1 1 \ngrid 1 1", "grid 1 1\r\ngrid 1 1", "grid 1 1 grid 1 1", "rows 1 a", "grid 1 1\nrows 1 a"]
        for text in wrong + ODD:
            self.fails(InvalidText, text, PointLot.read, text)
            self.fails(InvalidText, text, PointLot.read, text=text)
        self.assertEqual(len(PointLot.read("\n".join(["grid 1 1"] * 5))), 5)


class TestErrors(Case):
    def test_no_lot(self):
        good = lot((1, 2))
        for value in ODD + [Point((1, 2)), (Point((1, 2)),), "grid 2 1 2", RowLot((Row(2, "a"),)), PointLot]:
            for call in ONE_LOT:
                self.fails(NotALot, value, call, value)
                self.fails(NotALot, value, call, lot=value)
            for call in TWO_LOTS:
                self.fails(NotALot, value, call, value, good)
                self.fails(NotALot, value, call, good, value)
                self.fails(NotALot, value, call, value, None)
                self.fails(NotALot, value, call, other_lot=lot((1,)), lot=value)
            for call in WITH_CHANGE:
                self.fails(NotALot, value, call, value, Point((1, 2)))
                self.fails(NotALot, value, call, value, None)
            self.fails(NotALot, value, point_doing, value, ())
            self.fails(NotALot, value, point_doing, value, None)

    def test_no_change(self):
        for value in ODD + [lot((1, 2)), (Point((1, 2)),), "grid 2 1 2", (1, 2), Row(2, "a"), Slide(1, 1)]:
            for call in WITH_CHANGE:
                self.fails(NotAChange, value, call, lot((1, 2)), value)
                self.fails(NotAChange, value, call, change=value, lot=lot((1, 2)))

    def test_other_world(self):
        for numbers in ((1,), (1, 2, 3)):
            for call in WITH_CHANGE:
                other = Point(numbers)
                self.fails(OtherWorld, other, call, lot((1, 2)), other)
            for call in TWO_LOTS:
                other = lot(numbers)
                self.fails(OtherWorld, other, call, lot((1, 2)), other)

    def test_no_plan(self):
        good = lot((1,), (2,))
        deep = ((0, 1),)
        for _ in range(5):
            deep = ((deep, 1),)
        wrong = [value for value in ODD if value not in [(), ((0, 1),)]]
        wrong += [(0, 1), ((2, 1),), ((-1, 1),), ((0, 0),), ((0, 1, 1),), ((0,),), [(0, 1)], ([0, 1],), ((0, True),),
                  ((True, 1),), ((0, None),), ((None, 1),), ((((0, 0),), 1),), deep, ((Point((1,)), 1),), Point((1,))]
        for value in wrong:
            self.fails(InvalidPlan, value, point_doing, good, value)
            self.fails(InvalidPlan, value, point_doing, plan=value, lot=good)


class TestForm(Case):
    def check(self, made):
        """Check that a form is as it is told to be, and that just the told points are sums of its lines."""
        form, width = self.same_by_name(point_form, made), len(made.changes[0])
        self.assertIs(form.__class__, tuple)
        last = -1
        for at, line in enumerate(form):
            self.assertIs(line.__class__, tuple)
            self.assertEqual(len(line), width)
            pivot = next(column for column in range(width) if line[column])
            self.assertGreater(pivot, last)
            self.assertGreater(line[pivot], 0)
            for upper in form[:at]:
                self.assertTrue(0 <= upper[pivot] < line[pivot])
            last = pivot
        for numbers in told(made):
            self.assertTrue(is_sum(form, numbers))
        for line in form:
            self.assertTrue(is_sum(told(made), line))
        return form

    def test_random_lots(self):
        rng = random.Random(1)
        for _ in range(600):
            self.check(random_lot(rng, rng.randint(1, 3), rng.randint(1, 5), rng.choice([1, 3, 12, GREAT])))

    def test_does_not_depend_on_how_a_lot_is_told(self):
        rng = random.Random(2)
        for _ in range(300):
            width = rng.randint(1, 3)
            one = random_lot(rng, width, rng.randint(1, 4), rng.choice([2, 5, 10 ** 20]))
            rows = told(one)
            for _ in range(6):
                first, second = rng.randrange(len(rows)), rng.randrange(len(rows))
                times = rng.randint(-3, 3) if first != second else -2
                rows[first] = tuple(x + times * y for x, y in zip(rows[first], rows[second]))
            rows.append(rows[0])
            rng.shuffle(rows)
            other = lot(*rows)
            self.assertEqual(point_form(one), point_form(other))
            self.assertIs(self.same_by_name(same_points, one, other), True)
            self.assertIs(points_within(one, other) and points_within(other, one), True)

    def test_same_exactly_if_forms_are(self):
        rng = random.Random(3)
        for _ in range(400):
            width = rng.randint(1, 2)
            one, other = random_lot(rng, width, 2, 2), random_lot(rng, width, 2, 2)
            first = all(is_sum(told(other), numbers) for numbers in told(one))
            second = all(is_sum(told(one), numbers) for numbers in told(other))
            self.assertIs(self.same_by_name(points_within, one, other), first)
            self.assertIs(same_points(one, other), first and second)
            self.assertEqual(point_form(one) == point_form(other), first and second)

    def test_edges(self):
        self.assertEqual(point_form(lot((0, 0))), ())
        self.assertEqual(point_form(lot((0,), (0,))), ())
        self.assertEqual(point_form(lot((-4,), (6,))), ((2,),))
        self.assertEqual(point_form(lot((0, -3))), ((0, 3),))
        self.assertEqual(point_form(lot((1, 5), (0, 1))), ((1, 0), (0, 1)))
        self.assertEqual(point_form(lot((2, -1), (0, 3))), ((2, 2), (0, 3)))
        self.assertEqual(point_form(lot((GREAT, 1), (GREAT - 1, 0))), ((1, 1), (0, GREAT - 1)))


class TestMade(Case):
    def test_made_rests_orders_counts(self):
        rng = random.Random(4)
        for _ in range(120):
            width = rng.randint(1, 3)
            made = random_lot(rng, width, rng.randint(1, 5), rng.choice([1, 2, 4]))
            rows, form = told(made), point_form(made)
            for numbers in box(width, 6 if width == 1 else 3 if width == 2 else 1):
                point = Point(numbers)
                inside = is_sum(rows, numbers)
                self.assertIs(self.same_by_name(point_makes, made, point), inside)
                self.check_plan(made, point, inside)
                self.check_rest(made, form, point)
                self.check_counts(made, form, point, inside)
                self.check_order(made, point)

    def check_plan(self, made, point, inside):
        plan = self.same_by_name(point_plan, made, point)
        self.assertEqual(plan is not None, inside)
        if inside:
            self.assertEqual(self.same_by_name(point_doing, made, plan), point)
            total = [0] * len(point)
            for index, sign in flat(plan):
                total = [x + sign * y for x, y in zip(total, made.changes[index].numbers)]
            self.assertEqual(tuple(total), point.numbers)

    def check_rest(self, made, form, point):
        rest = self.same_by_name(point_rest, made, point)
        self.assertIs(rest.__class__, Point)
        for line in form:
            pivot = next(column for column in range(len(line)) if line[column])
            self.assertTrue(0 <= rest.numbers[pivot] < line[pivot])
        self.assertTrue(is_sum(told(made), tuple(x - y for x, y in zip(rest.numbers, point.numbers))))

    def check_counts(self, made, form, point, inside):
        counts = self.same_by_name(point_counts, made, point)
        self.assertEqual(counts is not None, inside)
        if inside:
            self.assertIs(counts.__class__, tuple)
            self.assertEqual(len(counts), len(form))
            sums = tuple(sum(times * line[column] for times, line in zip(counts, form))
                         for column in range(len(point)))
            self.assertEqual(sums, point.numbers)

    def check_order(self, made, point):
        order = self.same_by_name(order_in_rest, made, point)
        orders = (n for n in range(1, 200) if point_makes(made, point_often(point, n)))
        plain = next(orders, None)
        if order is None:
            self.assertIsNone(plain)
        elif order < 200:
            self.assertEqual(order, plain)
        else:
            self.assertTrue(plain is None and point_makes(made, point_often(point, order)))

    def test_great_numbers(self):
        rng = random.Random(5)
        for _ in range(150):
            width = rng.randint(1, 3)
            made = random_lot(rng, width, rng.randint(1, 5), GREAT)
            plan = tuple((at, rng.choice([-1, 1]) * rng.randint(1, MANY)) for at in range(len(made)))
            point = point_doing(made, plan)
            self.assertTrue(point_makes(made, point))
            self.assertEqual(point_doing(made, point_plan(made, point)), point)
            self.check_rest(made, point_form(made), point)
            self.assertEqual(order_in_rest(made, point), 1)
            beside = Point((point.numbers[0] + 1,) + point.numbers[1:])
            inside = is_sum(told(made), beside.numbers)
            self.assertIs(point_makes(made, beside), inside)
            self.assertEqual(point_plan(made, beside) is not None, inside)
            order = order_in_rest(made, beside)
            if order is not None:
                self.assertTrue(point_makes(made, point_often(beside, order)))

    def test_edges(self):
        still = lot((0, 0))
        self.assertIs(point_makes(still, Point((0, 0))), True)
        self.assertIs(point_makes(still, Point((0, 1))), False)
        self.assertEqual(point_doing(still, point_plan(still, Point((0, 0)))), Point((0, 0)))
        self.assertIsNone(point_plan(still, Point((1, 0))))
        self.assertEqual(point_counts(still, Point((0, 0))), ())
        self.assertIsNone(point_counts(still, Point((0, 1))))
        self.assertEqual(point_rest(still, Point((5, -5))), Point((5, -5)))
        self.assertEqual(order_in_rest(still, Point((0, 0))), 1)
        self.assertIsNone(order_in_rest(still, Point((0, 1))))
        half = lot((2, 1))
        self.assertIsNone(order_in_rest(half, Point((1, 1))))
        self.assertEqual(order_in_rest(lot((2, 1), (0, 4)), Point((1, 0))), 8)
        self.assertEqual(order_in_rest(lot((6, 3)), Point((4, 2))), 3)
        self.assertEqual(point_rest(half, Point((5, 0))), Point((1, -2)))
        self.assertEqual(point_rest(lot((1, 0), (0, 1)), Point((MANY, -MANY))), Point((0, 0)))
        self.assertEqual(order_in_rest(lot((GREAT,)), Point((1,))), GREAT)

    def test_plans_five_deep_and_great_times(self):
        made = lot((1, 0), (0, GREAT))
        plan = ((0, 2), (1, -1))
        for _ in range(4):
            plan = ((plan, MANY),)
        self.assertEqual(point_doing(made, plan), Point((2 * MANY ** 4, -GREAT * MANY ** 4)))
        self.fails(InvalidPlan, plan := ((plan, 1),), point_doing, made, plan)
        self.assertEqual(point_doing(made, ()), Point((0, 0)))
        self.assertEqual(point_doing(made, (((), 5), (0, -MANY))), Point((-MANY, 0)))


class TestCosets(Case):
    def test_one_by_one(self):
        rng = random.Random(6)
        finite = 0
        for _ in range(200):
            width = rng.randint(1, 3)
            made = random_lot(rng, width, rng.randint(1, 5), 3)
            many = self.same_by_name(point_cosets, made)
            sizes = divisors(told(made), width)
            self.assertEqual(many, sizes[-1] or None)
            if many is not None and many <= 30 and width < 3:
                finite += 1
                rests = {point_rest(made, Point(numbers)).numbers for numbers in box(width, 30 // width)}
                self.assertEqual(len(rests), many)
                for one, other in itertools.combinations(sorted(rests), 2):
                    self.assertFalse(is_sum(told(made), tuple(x - y for x, y in zip(one, other))))
        self.assertGreater(finite, 40)

    def test_edges(self):
        self.assertIsNone(point_cosets(lot((0,))))
        self.assertIsNone(point_cosets(lot((1, 0))))
        self.assertIsNone(point_cosets(lot((1, 0, 0), (0, 1, 0), (1, 1, 0), (2, 3, 0), (0, 0, 0))))
        self.assertEqual(point_cosets(lot((1, 0), (0, 1))), 1)
        self.assertEqual(point_cosets(lot((-7,))), 7)
        self.assertEqual(point_cosets(lot((GREAT, 0, 0), (0, GREAT, 0), (0, 0, -GREAT))), GREAT ** 3)


class TestMeetAndNeedless(Case):
    def test_makes_just_what_both_make(self):
        rng = random.Random(7)
        for _ in range(200):
            width = rng.randint(1, 3)
            one = random_lot(rng, width, rng.randint(1, 4), 3)
            other = random_lot(rng, width, rng.randint(1, 4), 3)
            form = self.same_by_name(point_meet, one, other)
            self.assertEqual(form, point_meet(other, one))
            self.assertEqual(point_meet(one, one), point_form(one))
            if form and len(form) <= 5:
                self.assertEqual(point_form(lot(*form)), form)
            for numbers in box(width, 12 if width == 1 else 5 if width == 2 else 1) + list(form):
                both = is_sum(told(one), numbers) and is_sum(told(other), numbers)
                self.assertEqual(is_sum(form, numbers), both)

    def test_meet_edges(self):
        self.assertEqual(point_meet(lot((0, 0)), lot((1, 0))), ())
        self.assertEqual(point_meet(lot((0, 1)), lot((1, 0))), ())
        self.assertEqual(point_meet(lot((4,)), lot((6,))), ((12,),))
        self.assertEqual(point_meet(lot((GREAT,)), lot((GREAT - 1,))), ((GREAT * (GREAT - 1),),))
        self.assertEqual(point_meet(lot((1, 1), (0, 2)), lot((1, 0), (0, 3))), ((1, 3), (0, 6)))

    def test_needless(self):
        rng = random.Random(8)
        for _ in range(300):
            made = random_lot(rng, rng.randint(1, 3), rng.randint(2, 5), 3)
            found = self.same_by_name(needless_points, made)
            plain = [at for at in range(len(made)) if same_points(made, PointLot(
                made.changes[:at] + made.changes[at + 1:]))]
            self.assertEqual(found, tuple(plain))
        self.assertEqual(needless_points(lot((0, 0))), (0,))
        self.assertEqual(needless_points(lot((0, 1))), ())
        self.assertEqual(needless_points(lot((0, 0), (0, 0))), (0, 1))
        self.assertEqual(needless_points(lot((2,), (3,))), ())
        self.assertEqual(needless_points(lot((2,), (3,), (1,))), (0, 1, 2))
        self.assertEqual(needless_points(lot((2,), (2,), (-2,))), (0, 1, 2))


class TestRings(Case):
    def test_by_square_parts(self):
        rng = random.Random(9)
        for _ in range(400):
            width = rng.randint(1, 3)
            made = random_lot(rng, width, rng.randint(1, 5), rng.choice([2, 6, 10 ** 12]))
            rings = self.same_by_name(point_rings, made)
            self.assertIs(rings.__class__, tuple)
            whole = [1] * (width - len(rings)) + list(rings)
            sizes = divisors(told(made), width)
            self.assertEqual([math.prod(whole[:size]) for size in range(1, width + 1)], sizes)
            self.assertNotIn(1, rings)
            for one, other in zip(rings, rings[1:]):
                self.assertTrue(other == 0 if one == 0 else other % one == 0)
            if 0 not in rings:
                self.assertEqual(math.prod(rings), point_cosets(made))

    def test_cosets_are_like_tuples_modulo_the_rings(self):
        rng = random.Random(10)
        checked = 0
        while checked < 40:
            made = random_lot(rng, 2, 2, 4)
            if point_cosets(made) is not None and point_cosets(made) <= 24:
                checked += 1
                cosets = {point_rest(made, Point(numbers)).numbers for numbers in box(2, 12)}
                orders = sorted(order_in_rest(made, Point(numbers)) for numbers in cosets)
                tuples = itertools.product(*(range(ring) for ring in point_rings(made)))
                self.assertEqual(orders, sorted(math.lcm(1, *(ring // math.gcd(ring, number) for ring, number in zip(
                    point_rings(made), numbers))) for numbers in tuples))

    def test_edges(self):
        self.assertEqual(point_rings(lot((0,))), (0,))
        self.assertEqual(point_rings(lot((0, 0, 0))), (0, 0, 0))
        self.assertEqual(point_rings(lot((1, 0), (0, 1))), ())
        self.assertEqual(point_rings(lot((1, 0))), (0,))
        self.assertEqual(point_rings(lot((3, 0, 0), (0, 0, 2))), (6, 0))
        self.assertEqual(point_rings(lot((4, 0), (0, 6))), (2, 12))
        self.assertEqual(point_rings(lot((5, 1, 1), (0, 3, 2))), (0,))
        self.assertEqual(point_rings(lot((5, 2, 1), (0, 10, 5))), (25, 0))
        self.assertEqual(point_rings(lot((4, 0, 0), (0, 4, 0), (0, 0, 4))), (4, 4, 4))
        self.assertEqual(point_rings(lot((GREAT, 0), (0, GREAT))), (GREAT, GREAT))


if __name__ == "__main__":
    unittest.main()
