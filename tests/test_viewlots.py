"""Lots of views: texts, forms, cosets, plans, what is near and small; errors and their order."""

import itertools
import math
import random
import unittest
from fractions import Fraction

from helpers import (Case, ODD, check_defined, check_lot_class, check_lot_errors, check_told, deep_plan, flat,
                     press_count, random_plan, retold)
from pressworlds import viewlots
from pressworlds.errors import InvalidText, OtherWorld, TooFar, TooGreat
from pressworlds.points import Point
from pressworlds.slidelots import SlideLot
from pressworlds.slides import Slide
from pressworlds.viewlots import (ViewLot, needless_views, same_views, view_cosets, view_doing, view_form, view_makes,
                                  view_plan, views_within)
from pressworlds.views import View, view_often, view_then, view_undone

LOTS, CHANGE = "lot other_lot", "lot change"
FUNCTIONS = {"view_form": "lot", "view_cosets": "lot", "view_makes": CHANGE, "view_plan": CHANGE,
             "view_doing": "lot plan", "same_views": LOTS, "views_within": LOTS, "needless_views": "lot"}
CLASSES = {"ViewLot": ("changes", "__init__ read changes text __str__ __len__ __eq__")}
CALLS = ([view_form, view_cosets, needless_views], [same_views, views_within], [view_makes, view_plan], view_doing)
FACTORS = (2, 3, 4, 5)
MANY = 10 ** 39 + 3


def pair(fraction):
    return fraction.numerator, fraction.denominator


def view(factor, zoom, shift):
    return View(factor, zoom, pair(Fraction(shift)))


def lot(factor, *pairs):
    return ViewLot(tuple(view(factor, zoom, shift) for zoom, shift in pairs))


def plain(one):
    return one.zoom, Fraction(*one.shift)


def plain_then(factor, one, other):
    return one[0] + other[0], one[1] + Fraction(factor) ** one[0] * other[1]


def plain_undone(factor, one):
    return -one[0], -one[1] / Fraction(factor) ** one[0]


def plain_often(factor, one, times):
    done = (0, Fraction(0))
    for _ in range(abs(times)):
        done = plain_then(factor, done, one if times > 0 else plain_undone(factor, one))
    return done


def plain_fits(factor, fraction):
    return factor ** fraction.denominator.bit_length() % fraction.denominator == 0


def in_form(factor, form, one):
    """Return whether a pair of zoom and shift is of those that the text tells by a form, led plainly."""
    step, gauge, head = form
    zoom, shift = one
    gauge = Fraction(*gauge)
    if step == 0:
        return zoom == 0 and (shift == 0 if gauge == 0 else (shift / gauge).denominator == 1)
    if zoom % step:
        return False
    rest = shift - plain_often(factor, (step, Fraction(*head[0])), zoom // step)[1]
    return rest == 0 if gauge == 0 else plain_fits(factor, rest / gauge)


def is_small(one):
    factor, shift = one.factor, Fraction(*one.shift)
    return abs(one.zoom) <= 4 and abs(shift) <= 100 and factor ** 4 % shift.denominator == 0


def is_near(one):
    factor, shift = one.factor, Fraction(*one.shift)
    return abs(one.zoom) <= 8 and abs(shift) <= 1000 and factor ** 8 % shift.denominator == 0


def random_shift(rng, factor, most, deep):
    bottom = factor ** rng.choice([0, 0, 1, deep])
    if rng.random() < 0.2:
        return Fraction(factor ** rng.randint(0, 3) % (most * bottom), bottom)
    return Fraction(rng.randint(-most * bottom, most * bottom), bottom)


def random_lot(rng, factor, most=100, deep=4):
    """Return a random lot, often without zooms, or with a divisor of all zooms and shifts."""
    step, share = rng.choice([0, 1, 1, 2, 3, 4]), rng.choice([1, 1, 7, 12])
    return lot(factor, *((step * rng.randint(-(4 // max(1, step)), 4 // max(1, step)),
                          share * random_shift(rng, factor, max(1, most // share), deep)) for _ in range(rng.randint(1, 5))))


def random_near(rng, factor, zooms=8):
    return view(factor, rng.randint(-zooms, zooms), random_shift(rng, factor, 1000, 8))


class TestClass(Case):
    def test_interface(self):
        check_defined(self, viewlots, FUNCTIONS, CLASSES)

    def test_properties_and_equality(self):
        changes = [(view(2, 1, 0), view(2, 0, 1)), (view(2, 0, 1), view(2, 1, 0)), (view(3, 0, 1),), (view(2, 0, 0),),
                   (view(5, -4, -100), view(5, 4, Fraction(62499, 625))), (view(4, 0, Fraction(1, 2)),) * 5]
        texts = ["screen 2 zoom 1 shift 0\nscreen 2 zoom 0 shift 1", "screen 2 zoom 0 shift 1\nscreen 2 zoom 1 shift 0",
                 "screen 3 zoom 0 shift 1", "screen 2 zoom 0 shift 0",
                 "screen 5 zoom -4 shift -100\nscreen 5 zoom 4 shift 62499/625",
                 "\n".join(["screen 4 zoom 0 shift 1/2"] * 5)]
        check_lot_class(self, ViewLot, changes, texts)

    def test_wrong_changes(self):
        wrong = [view(2, 5, 0), view(2, -5, 0), view(2, 0, 101), view(2, 0, -101), view(2, 0, Fraction(1601, 16)),
                 view(2, 0, Fraction(-1601, 16)), view(2, 0, Fraction(1, 32)), view(2, 400, 0), view(4, 0, Fraction(1, 512)),
                 view(3, 0, Fraction(1, 243)), Slide(1, 1), Point((1,)), lot(2, (0, 1)), (2, 0, (0, 1))]
        others = [view(factor, 0, 0) for factor in (3, 4, 5)]
        for good in (view(2, 4, 100), view(2, -4, Fraction(-1599, 16))):
            check_told(self, ViewLot, good, wrong, others)
        for factor in FACTORS:
            self.assertEqual(len(lot(factor, (4, -100), (-4, 100), (0, Fraction(1, factor ** 4)))), 3)
        self.assertEqual(len(lot(4, (0, Fraction(1, 256)), (0, Fraction(1, 2)))), 2)

    def test_wrong_texts(self):
        good = "screen 2 zoom 0 shift 1"
        wrong = ["", "\n", good + "\n", "\n" + good, good + "\n\n" + good, good + " ", good + "/1", good + " " + good,
                 "screen 2 zoom 0 shift 01", "screen 2 zoom -0 shift 1", good + "\r\n" + good, "ruler + 1",
                 good + "\nscreen 3 zoom 0 shift 1", good + "\nruler + 1", "\n".join([good] * 6),
                 "screen 2 zoom 5 shift 1", "screen 2 zoom 0 shift 101", "screen 2 zoom 0 shift 1/32"]
        for text in wrong + ODD + [lot(2, (0, 1))]:
            self.fails(InvalidText, text, ViewLot.read, text)
            self.fails(InvalidText, text, ViewLot.read, text=text)
        self.assertEqual(len(ViewLot.read("\n".join([good] * 5))), 5)

    def test_does_not_change(self):
        made = lot(2, (1, 0), (0, 1))
        view_form(made), view_plan(made, view(2, 3, 5)), same_views(made, made), view_doing(made, ((0, 3),))
        self.assertEqual(made, lot(2, (1, 0), (0, 1)))

    def test_errors(self):
        check_lot_errors(self, CALLS, lot(2, (1, 0), (0, 1)), view(2, 0, 1), [SlideLot((Slide(1, 1),))],
                         [Slide(1, 1), Point((1,)), (2, 0, (0, 1))])

    def test_other_world(self):
        good = lot(2, (1, 0), (0, 1))
        for factor in (3, 4, 5):
            for other in (view(factor, 0, 0), view(factor, 400, 10 ** 30)):
                for call in (view_makes, view_plan):
                    self.fails(OtherWorld, other, call, good, other)
                    self.fails(OtherWorld, other, call, change=other, lot=good)
            other = lot(factor, (0, 1))
            for call in (same_views, views_within):
                self.fails(OtherWorld, other, call, good, other)
                self.fails(OtherWorld, other, call, other_lot=other, lot=good)


class TestNear(Case):
    def test_too_far(self):
        for factor in FACTORS:
            for made in (lot(factor, (1, 0), (0, 1)), lot(factor, (0, 0))):
                far = [view(factor, 9, 0), view(factor, -9, 0), view(factor, 0, 1001), view(factor, 0, -1001),
                       view(factor, 0, 1000 + Fraction(1, factor)), view(factor, 0, Fraction(1, factor ** 9)),
                       view(factor, 400, 0), view(factor, 0, 10 ** 40)]
                for change in far:
                    for call in (view_makes, view_plan):
                        self.fails(TooFar, change, call, made, change)
                        self.fails(TooFar, change, call, change=change, lot=made)
                for change in (view(factor, 8, 1000), view(factor, -8, -1000), view(factor, 0, Fraction(1, factor ** 8)),
                               view(factor, 8, 1000 - Fraction(1, factor ** 8))):
                    made_so = self.same_by_name(view_makes, made, change)
                    self.assertIs(made_so, len(made) == 2)
                    plan = self.same_by_name(view_plan, made, change)
                    self.assertEqual(plan is not None, made_so)
                    if plan is not None:
                        self.assertEqual(view_doing(made, plan), change)


class TestForm(Case):
    def check(self, made):
        """Check that a form is as it is told to be, and that the told views are of those that it tells."""
        form = self.same_by_name(view_form, made)
        factor = made.changes[0].factor
        step, gauge, head = form
        self.assertEqual([part.__class__ for part in (form, step, gauge, head)], [tuple, int, tuple, tuple])
        self.assertEqual(step, math.gcd(*(one.zoom for one in made.changes)))
        self.assertEqual(math.gcd(*gauge), 1)
        self.assertTrue(gauge[0] >= 0 and gauge[1] > 0)
        self.assertEqual(len(head), int(step > 0))
        if step:
            self.assertEqual(gauge[1], 1)
            self.assertTrue(gauge[0] == 0 or math.gcd(gauge[0], factor) == 1)
            self.assertTrue(gauge[0] == 0 or head[0][1] == 1 and 0 <= head[0][0] < gauge[0])
            self.assertTrue(plain_fits(factor, Fraction(*head[0])) and math.gcd(*head[0]) == 1)
        for one in made.changes:
            self.assertTrue(in_form(factor, form, plain(one)))
        return form

    def check_made(self, made, change):
        """Check a plan and what is told of it against the form; return whether the view is made."""
        factor = change.factor
        inside = in_form(factor, view_form(made), plain(change))
        self.assertIs(self.same_by_name(view_makes, made, change), inside, (str(made), str(change)))
        plan = self.same_by_name(view_plan, made, change)
        self.assertEqual(plan is not None, inside)
        if inside:
            self.assertEqual(self.same_by_name(view_doing, made, plan), change)
        return inside

    def test_what_a_form_tells_is_just_what_is_made(self):
        # The told views are in it, it is closed, and for what is in it a plan does it.
        rng = random.Random(1)
        inside = 0
        for _ in range(250):
            factor = rng.choice(FACTORS)
            made = random_lot(rng, factor)
            form = self.check(made)
            some = [plain(one) for one in made.changes]
            for _ in range(6):
                first, second = rng.choice(some), rng.choice(some)
                some.append(plain_then(factor, first, rng.choice([second, plain_undone(factor, second)])))
            for one in some:
                self.assertTrue(in_form(factor, form, one))
                if abs(one[0]) <= 400 and is_near(view(factor, *one)):
                    self.assertTrue(self.check_made(made, view(factor, *one)))
            for _ in range(6):
                inside += self.check_made(made, random_near(rng, factor))
            head = form[2][0] if form[2] else (0, 1)
            for zoom in range(-8, 9):
                if form[0] and zoom % form[0] == 0 or zoom == 0:
                    shift = plain_often(factor, (form[0], Fraction(*head)), zoom // form[0] if form[0] else 0)[1]
                    shift += Fraction(*form[1]) * rng.randint(-5, 5)
                    if is_near(view(factor, zoom, shift)):
                        self.assertTrue(self.check_made(made, view(factor, zoom, shift)))
        self.assertGreater(inside, 200)

    def test_against_a_plain_search(self):
        # All views that come of the told ones with small zooms and shifts on the way, and no others.
        rng = random.Random(2)
        for _ in range(25):
            factor = rng.choice((2, 3))
            made = lot(factor, *((rng.randint(-1, 1), rng.randint(-6, 6)) for _ in range(2)))
            steps = [plain(one) for one in made.changes]
            steps += [plain_undone(factor, one) for one in steps]
            found, todo = {(0, Fraction(0))}, [(0, Fraction(0))]
            while todo:
                one = todo.pop()
                for step in steps:
                    after = plain_then(factor, one, step)
                    near = abs(after[0]) <= 3 and abs(after[1]) <= 60 and factor ** 3 % after[1].denominator == 0
                    if near and after not in found:
                        found.add(after)
                        todo.append(after)
            for zoom, shift in itertools.product((-1, 0, 1), range(-6, 7)):
                self.assertIs(view_makes(made, view(factor, zoom, shift)), (zoom, Fraction(shift)) in found)

    def test_does_not_depend_on_how_a_lot_is_told(self):
        rng = random.Random(3)
        for _ in range(250):
            factor = rng.choice(FACTORS)
            made = random_lot(rng, factor, rng.choice([3, 100]), rng.choice([1, 4]))
            other = ViewLot(retold(rng, made.changes, view_then, view_undone, is_small))
            self.assertEqual(view_form(made), view_form(other))
            self.assertIs(self.same_by_name(same_views, made, other), True)
            self.assertIs(self.same_by_name(views_within, made, other), True)
            self.assertIs(views_within(other, made), True)

    def test_same_and_within_by_told_views(self):
        rng = random.Random(4)
        told = []
        for _ in range(400):
            factor = rng.choice((2, 3))
            one, other = (random_lot(rng, factor, 12, 1) for _ in range(2))
            first = all(view_makes(other, change) for change in one.changes)
            second = all(view_makes(one, change) for change in other.changes)
            self.assertIs(self.same_by_name(views_within, one, other), first)
            self.assertIs(self.same_by_name(same_views, one, other), first and second)
            self.assertEqual(view_form(one) == view_form(other), first and second)
            told.append((first, second))
        self.assertEqual(set(told), set(itertools.product((True, False), repeat=2)))

    def test_edges(self):
        half = Fraction(1, 2)
        for factor, pairs, form in [
                (2, [(0, 0)], (0, (0, 1), ())), (2, [(0, 0)] * 5, (0, (0, 1), ())), (2, [(0, -3)], (0, (3, 1), ())),
                (2, [(0, half), (0, Fraction(3, 4))], (0, (1, 4), ())), (5, [(0, 6), (0, 4)], (0, (2, 1), ())),
                (2, [(3, half)], (3, (0, 1), ((1, 2),))), (2, [(-3, 0)], (3, (0, 1), ((0, 1),))),
                (2, [(-1, 1)], (1, (0, 1), ((-2, 1),))), (2, [(1, 0), (0, 6)], (1, (3, 1), ((0, 1),))),
                (2, [(1, 5), (0, 6)], (1, (3, 1), ((2, 1),))), (2, [(1, half), (0, 6)], (1, (3, 1), ((2, 1),))),
                (4, [(1, 0), (0, 6)], (1, (3, 1), ((0, 1),))), (3, [(2, 0), (0, 6)], (2, (2, 1), ((0, 1),))),
                (5, [(4, 1), (0, 100)], (4, (4, 1), ((1, 1),))), (2, [(4, 0), (-4, 1)], (4, (1, 1), ((0, 1),))),
                (3, [(2, 0), (4, 0)], (2, (0, 1), ((0, 1),))), (3, [(2, 1), (4, 10)], (2, (0, 1), ((1, 1),))),
                (3, [(2, 1), (3, 5)], (1, (7, 1), ((2, 1),)))]:
            self.assertEqual(view_form(lot(factor, *pairs)), form)


class TestCosets(Case):
    def test_one_by_one(self):
        rng = random.Random(5)
        finite = 0
        while finite < 40:
            factor = rng.choice(FACTORS)
            made = random_lot(rng, factor, 12, 1)
            form, many = view_form(made), self.same_by_name(view_cosets, made)
            if form[0] == 0 or form[1] == (0, 1):
                self.assertIsNone(many)
            elif many <= 60:
                finite += 1
                some = [(zoom, Fraction(shift)) for zoom in range(form[0]) for shift in range(form[1][0])]
                some += [plain(random_near(rng, factor)) for _ in range(20)]
                found = []
                for one in some:
                    if not any(in_form(factor, form, plain_then(factor, plain_undone(factor, one), other))
                               for other in found):
                        found.append(one)
                self.assertEqual(len(found), many)

    def test_edges(self):
        self.assertIsNone(view_cosets(lot(2, (0, 0))))
        self.assertIsNone(view_cosets(lot(2, (0, 1), (0, Fraction(1, 16)))))
        self.assertIsNone(view_cosets(lot(2, (1, 1))))
        self.assertEqual(view_cosets(lot(2, (1, 0), (0, 1))), 1)
        self.assertEqual(view_cosets(lot(2, (1, 0), (0, 64))), 1)
        self.assertEqual(view_cosets(lot(5, (4, 0), (0, 99))), 396)


class TestPlans(Case):
    def test_told_plans_press_by_press(self):
        rng = random.Random(6)
        pressed = 0
        while pressed < 150:
            factor = rng.choice(FACTORS)
            made = random_lot(rng, factor, 5, 1)
            change = view_doing(made, tuple((rng.randrange(len(made)), rng.choice([1, -1])) for _ in range(4)))
            if not is_near(change):
                continue
            plan = view_plan(made, change)
            if press_count(plan) < 3000:
                pressed += 1
                done = (0, Fraction(0))
                for index, sign in flat(plan):
                    told = plain(made.changes[index])
                    done = plain_then(factor, done, told if sign > 0 else plain_undone(factor, told))
                self.assertEqual(done, plain(change))

    def test_random_plans_press_by_press(self):
        rng = random.Random(7)
        for _ in range(250):
            factor = rng.choice(FACTORS)
            made = random_lot(rng, factor)
            plan = random_plan(rng, len(made), 4, [-2, -1, 1, 2])
            done = (0, Fraction(0))
            for index, sign in flat(plan):
                told = plain(made.changes[index])
                done = plain_then(factor, done, told if sign > 0 else plain_undone(factor, told))
            self.assertEqual(plain(self.same_by_name(view_doing, made, plan)), done)

    def test_zooms_stay_small_as_told_plans_are_done(self):
        rng = random.Random(8)
        most = 0
        for _ in range(600):
            factor = rng.choice(FACTORS)
            made = random_lot(rng, factor)
            form = view_form(made)
            if form[0]:
                zoom = form[0] * rng.randint(-(8 // form[0]), 8 // form[0])
                shift = plain_often(factor, (form[0], Fraction(*form[2][0])), zoom // form[0])[1]
                shift += form[1][0] * random_shift(rng, factor, 9, 8)
                if is_near(view(factor, zoom, shift)):
                    plan = view_plan(made, view(factor, zoom, shift))
                    most = max(most, self.greatest_zoom(made, plan)[1])
        self.assertTrue(4 < most < 100, most)

    def greatest_zoom(self, made, plan):
        """Return the zoom of a plan and the greatest one on the way."""
        total = most = 0
        for part, times in plan:
            inner = self.greatest_zoom(made, part) if isinstance(part, tuple) else (made.changes[part].zoom, 0)
            total += inner[0] * times
            most = max(most, inner[1], abs(inner[0]), abs(inner[0] * times), abs(total))
        return total, most

    def test_edges(self):
        self.assertIsNone(view_plan(lot(2, (0, 0)), view(2, 0, 1)))
        self.assertIsNone(view_plan(lot(2, (2, 0)), view(2, 1, 0)))
        self.assertIsNone(view_plan(lot(2, (1, 0), (0, 3)), view(2, 1, 1)))
        for made in (lot(2, (0, 0)), lot(3, (1, 5)), lot(2, (4, 1), (-3, 7))):
            still = view(made.changes[0].factor, 0, 0)
            self.assertEqual(view_doing(made, view_plan(made, still)), still)
            self.assertEqual(view_doing(made, ()), still)
            self.assertEqual(view_doing(made, (((), MANY), ((), -1))), still)

    def test_plans_five_deep_and_times_of_40_digits(self):
        made = lot(2, (1, 0), (0, 3))
        self.assertEqual(view_doing(made, deep_plan(1, 5, MANY)), view(2, 0, 3 * MANY ** 5))
        self.assertEqual(view_doing(made, ((0, 400), (0, -400), (0, -400), (1, MANY), (0, 400))),
                         view(2, 0, Fraction(3 * MANY, 2 ** 400)))
        self.assertEqual(view_doing(made, ((0, 2), (1, MANY), (0, -2))), view(2, 0, 12 * MANY))
        self.fails(TooGreat, MANY, view_doing, made, deep_plan(0, 5, MANY))

    def test_the_first_that_is_too_great(self):
        made = lot(2, (4, 0), (0, 1), (-3, 0))
        for plan, zoom in [(((0, 101),), 404), (((0, 100), (0, 1), (0, -1)), 404), (((0, -101), (0, 101)), -404),
                           (((1, MANY), (0, MANY), (0, -MANY)), 4 * MANY), (((0, 100), (2, 1), (0, 1)), 401),
                           (((((0, 200), (0, -200)), 1),), 800), (((((0, 60), (0, 41)), 1), (0, -101)), 404),
                           (((((0, 50), (1, 1)), 3),), 600), (((0, 100), (((0, 1), (0, 100)), 1)), 404),
                           (((2, 134), (0, 101)), -402), (((((0, 1),), -MANY),), -4 * MANY)]:
            self.fails(TooGreat, zoom, view_doing, made, plan)
        for plan, zoom in [(((0, 100),), 400), (((0, 100), (0, -100), (0, -100)), -400), (((2, -133),), 399),
                           (((0, 99), (((0, 1), (0, -1)), MANY)), 396)]:
            self.assertEqual(self.same_by_name(view_doing, made, plan).zoom, zoom)
        self.fails(TooGreat, -800, view_doing, made, ((0, 100), (0, -200)))


class TestNeedless(Case):
    def test_against_the_others(self):
        rng = random.Random(9)
        told = set()
        for _ in range(300):
            factor = rng.choice(FACTORS)
            made = random_lot(rng, factor, 12, 1)
            if len(made) > 1:
                found = self.same_by_name(needless_views, made)
                others = [ViewLot(made.changes[:at] + made.changes[at + 1:]) for at in range(len(made))]
                self.assertEqual(found, tuple(at for at in range(len(made)) if same_views(made, others[at])))
                told.add(len(found))
        self.assertGreater(len(told), 3)

    def test_edges(self):
        for factor, pairs, needless in [(2, [(0, 0)], (0,)), (2, [(0, 1)], ()), (2, [(1, 0)], ()),
                                        (2, [(0, 0), (0, 0)], (0, 1)), (2, [(1, 0), (0, 0)], (1,)),
                                        (2, [(1, 0), (0, 1), (0, 2)], (1, 2)), (3, [(1, 0), (0, 1), (0, 2)], (2,)),
                                        (2, [(0, 1), (0, 2)], (1,)), (2, [(2, 0), (3, 0)], ()),
                                        (2, [(2, 0), (3, 0), (1, 0)], (0, 1, 2))]:
            self.assertEqual(needless_views(lot(factor, *pairs)), needless)


if __name__ == "__main__":
    unittest.main()
