"""Views: texts, what is done with one or two views, likeness, roots, errors and their order, edges."""

import random
import unittest
from fractions import Fraction

from helpers import Case, ODD, check_defined
from pressworlds import views
from pressworlds.errors import (InvalidFactor, InvalidNumber, InvalidShift, InvalidText, InvalidZoom, NotAChange,
                                OtherWorld, TooGreat)
from pressworlds.points import Point
from pressworlds.rows import Row
from pressworlds.slides import Slide
from pressworlds.views import (View, do_views_commute, is_view_alike, view_alike, view_gap, view_often, view_order,
                               view_root, view_shows, view_stays, view_then, view_undone)

TWO = "one other"
FUNCTIONS = {"view_then": TWO, "view_undone": "one", "view_often": "one times", "view_order": "one", "view_gap": TWO,
             "view_shows": "one point", "view_stays": "one", "is_view_alike": TWO, "view_alike": TWO,
             "do_views_commute": TWO, "view_root": "one degree"}
CLASSES = {"View": ("factor zoom shift", "__init__ read factor zoom shift __str__ __eq__")}
ONE_VIEW = [view_undone, view_order, view_stays]
TWO_VIEWS = [view_then, view_gap, is_view_alike, view_alike, do_views_commute]
NO_VIEWS = ODD + [(2, 1, (0, 1)), "screen 2 zoom 0 shift 1", Row(1, "a"), Point((1,)), Slide(1, 1), View]
NO_INTEGERS = [None, True, False, "1", "", (1,), [1], (), {}, b"1", object()]
NO_FRACTIONS = NO_INTEGERS + [0, 1, -1, (1, 0), (0, 0), (1, -1), (-1, -2), (2, 2), (0, 2), (0, -1), (2, 4), (-4, 8),
                              (1, 2, 3), [1, 2], (1, True), (True, 1), (False, 1), (True, 2), (None, 1), (1, None),
                              ("1", "2"), ((1, 2), 1), (1, (1, 2)), "1/2", b"1/2", (5, 10 ** 40 * 5)]
MANY = 10 ** 39 + 3
FACTORS = (2, 3, 4, 5)


def pair(fraction):
    return fraction.numerator, fraction.denominator


def view(factor, zoom, shift):
    return View(factor, zoom, pair(Fraction(shift)))


def plain(one):
    """Return zoom and shift of a view, the shift as a fraction of Python's library."""
    return one.zoom, Fraction(*one.shift)


def plain_then(factor, one, other):
    return one[0] + other[0], one[1] + Fraction(factor) ** one[0] * other[1]


def plain_undone(factor, one):
    return -one[0], -one[1] / Fraction(factor) ** one[0]


def plain_fits(factor, fraction):
    """Return whether the bottom of a fraction divides a power of the factor that is great enough for it."""
    return factor ** fraction.denominator.bit_length() % fraction.denominator == 0


def shifts(factor, most, deep):
    """Return the fractions up to so much either way whose bottoms divide the power of the factor."""
    bottom = factor ** deep
    return [Fraction(top, bottom) for top in range(-most * bottom, most * bottom + 1)]


def some_views(factor, zooms=2, most=2):
    return [view(factor, zoom, shift) for zoom in range(-zooms, zooms + 1) for shift in shifts(factor, most, 1)]


def random_view(rng, factor, zooms=4, most=20, deep=3):
    bottom = factor ** rng.randint(0, deep)
    return view(factor, rng.randint(-zooms, zooms), Fraction(rng.randint(-most * bottom, most * bottom), bottom))


def great_view(factor, zoom):
    return view(factor, zoom, Fraction(MANY, factor ** 60))


class TestClass(Case):
    def test_interface(self):
        check_defined(self, views, FUNCTIONS, CLASSES)

    def test_properties_by_position_and_by_name(self):
        for factor, zoom, shift, text in [
                (2, 1, (0, 1), "screen 2 zoom 1 shift 0"), (3, 0, (-1, 9), "screen 3 zoom 0 shift -1/9"),
                (4, -400, (7, 2), "screen 4 zoom -400 shift 7/2"), (5, 400, (-3, 1), "screen 5 zoom 400 shift -3"),
                (4, 3, (3, 8), "screen 4 zoom 3 shift 3/8"), (2, 0, (1, 2 ** 100), f"screen 2 zoom 0 shift 1/{2 ** 100}"),
                (5, -7, (MANY, 125), f"screen 5 zoom -7 shift {MANY}/125")]:
            for made in (View(factor, zoom, shift), View(factor=factor, zoom=zoom, shift=shift),
                         View(shift=shift, zoom=zoom, factor=factor), View.read(text), View.read(text=text)):
                self.assertEqual((made.factor, made.zoom, made.shift, str(made)), (factor, zoom, shift, text))
                self.assertEqual([value.__class__ for value in (made.zoom, made.shift) + made.shift],
                                 [int, tuple, int, int])
                self.assertIs(bool(made), True)

    def test_wrong_factor_zoom_shift_in_this_order(self):
        for factor in NO_INTEGERS + [0, 1, 6, -2, 7, MANY, (2,), View(2, 0, (0, 1))]:
            for zoom, shift in ((0, (0, 1)), (401, (0, 1)), (0, None), (None, None)):
                self.fails(InvalidFactor, factor, View, factor, zoom, shift)
            self.fails(InvalidFactor, factor, View, shift=None, zoom=None, factor=factor)
        for zoom in NO_INTEGERS + [401, -401, MANY, -MANY, (1, 1)]:
            for shift in ((0, 1), None, (1, 7), (2, 4)):
                self.fails(InvalidZoom, zoom, View, 2, zoom, shift)
        for shift in NO_FRACTIONS:
            for factor in FACTORS:
                self.fails(InvalidShift, shift, View, factor, 400, shift)
        for zoom in (400, -400):
            self.assertEqual(View(2, zoom, (0, 1)).zoom, zoom)

    def test_fractions_that_fit(self):
        for bottom in range(1, 700):
            for factor in FACTORS:
                fraction = (bottom + 1, bottom)
                if any(factor ** power % bottom == 0 for power in range(12)):
                    self.assertEqual(View(factor, 0, fraction).shift, fraction)
                else:
                    self.fails(InvalidShift, fraction, View, factor, 0, fraction)
        self.assertEqual(View(4, 0, (1, 2 ** 99)).shift, (1, 2 ** 99))
        self.fails(InvalidShift, value := (1, 2 ** 99 * 3), View, 4, 0, value)

    def test_wrong_texts(self):
        wrong = ["screen", "screen 2 zoom 0 shift", "screen 2 zoom 0 shift ", "screen 2 zoom 0 shift 1/1",
                 "screen 2 zoom 0 shift 0/1", "screen 2 zoom 0 shift -0", "screen 2 zoom -0 shift 1",
                 "screen 2 zoom 0 shift 2/4", "screen 2 zoom 0 shift 1/3", "screen 2 zoom 0 shift 1/-2",
                 "screen 2 zoom 0 shift 01", "screen 2 zoom 0 shift 1/02", "screen 2 zoom 00 shift 1",
                 "screen 02 zoom 0 shift 1", "screen 1 zoom 0 shift 1", "screen 6 zoom 0 shift 1",
                 "screen 2 zoom 401 shift 1", "screen 2 zoom -401 shift 1", "screen 2 zoom 0 shift 1 ",
                 " screen 2 zoom 0 shift 1", "screen 2 zoom  0 shift 1", "screen 2 zoom 0 shift 1\n",
                 "\nscreen 2 zoom 0 shift 1", "screen 2 zoom 0 shift 1 1", "screen 2 zoom 0 shift 1/2/4",
                 "screen 2 zoom 0 shift /2", "screen 2 zoom 0 shift 1/", "screen 2 zoom 0 shift 1 /2",
                 "screen 2 zoom 0 shift 1/0", "screen 2 zoom 0 shift 0/2", "screen 2 zoom 0 shift 0/0",
                 "screen 2 zoom 0 shift +1", "screen 2 zoom +0 shift 1", "Screen 2 zoom 0 shift 1",
                 "screen 2 shift 1 zoom 0", "screen 2 zoom 0 shift 1.5", "screen 2 zoom 0 shift --1",
                 "screen 2 zoom 0 shift x", "screen 2 zoom x shift 1", "screen x zoom 0 shift 1",
                 "screen 2 zoom 0 shifts 1", "screens 2 zoom 0 shift 1", "screen 2 zooms 0 shift 1",
                 "screen 2 zoom 0 shift 1_0", "screen  zoom 0 shift 1", "screen 2 zoom 0 shift 1\nscreen 2 zoom 0 shift 1",
                 "screen 4 zoom 0 shift 1/6", "screen -2 zoom 0 shift 1", "rows 2 ab", "grid 2 1 1", "ruler + 1"]
        for text in wrong + ODD + [View(2, 0, (0, 1))]:
            self.fails(InvalidText, text, View.read, text)
            self.fails(InvalidText, text, View.read, text=text)

    def test_equal_exactly_if_texts_are(self):
        some = some_views(2, 1, 1) + some_views(3, 1, 1) + some_views(4, 0, 1) + [View(2, 0, (1, 1))]
        for one in some:
            for other in some:
                self.assertIs(one == other, str(one) == str(other))
                self.assertIs(one != other, str(one) != str(other))
            self.assertEqual(View.read(str(one)), one)
        for value in ODD + [(2, 0, (0, 1)), "screen 2 zoom 0 shift 0", Slide(1, 1)]:
            self.assertIs(View(2, 0, (0, 1)) == value, False)
            self.assertIs(value == View(2, 0, (0, 1)), False)
            self.assertIs(View(2, 0, (0, 1)) != value, True)

    def test_does_not_change(self):
        made = View(2, 1, (1, 2))
        for name in ("factor", "zoom", "shift"):
            with self.assertRaises(AttributeError):
                setattr(made, name, 1)
        view_then(made, made), view_often(made, 9), view_gap(made, View(2, 0, (1, 1)))
        self.assertEqual(str(made), "screen 2 zoom 1 shift 1/2")

    def test_texts_with_more_digits_than_python_writes(self):
        made = View(5, 0, (3, 1))
        for _ in range(60):
            made = view_often(made, 10 ** 99)
        self.assertEqual(str(made), "screen 5 zoom 0 shift 3" + "0" * 5940)


class TestDone(Case):
    def test_then_is_what_points_show(self):
        for factor in FACTORS:
            some = some_views(factor, 2, 1)
            for one in some:
                for other in some:
                    done = self.same_by_name(view_then, one, other)
                    self.assertEqual(plain(done), plain_then(factor, plain(one), plain(other)))
                    for point in ((0, 1), (-2, 3), (1, factor)):
                        self.assertEqual(view_shows(done, point), view_shows(one, view_shows(other, point)))

    def test_shows(self):
        for factor in FACTORS:
            for one in some_views(factor):
                for point in (Fraction(0), Fraction(-5), Fraction(2, 7), Fraction(MANY, 10 ** 20)):
                    shown = self.same_by_name(view_shows, one, pair(point))
                    self.assertEqual(shown, pair(Fraction(factor) ** one.zoom * point + Fraction(*one.shift)))
        self.assertEqual(view_shows(View(2, 400, (MANY, 1)), (1, 3)), pair(Fraction(2 ** 400, 3) + MANY))

    def test_stays(self):
        for factor in FACTORS:
            for one in some_views(factor):
                stays = self.same_by_name(view_stays, one)
                if one.zoom == 0:
                    self.assertEqual(stays, None if one.shift == (0, 1) else ())
                else:
                    self.assertEqual((stays.__class__, len(stays)), (tuple, 1))
                    self.assertEqual(view_shows(one, stays[0]), stays[0])
        self.assertEqual(view_stays(View(2, 2, (1, 1))), ((-1, 3),))
        self.assertEqual(view_stays(View(5, -400, (0, 1))), ((0, 1),))
        for zoom in (1, -3, 400, -400):
            one = great_view(3, zoom)
            self.assertEqual(view_shows(one, view_stays(one)[0]), view_stays(one)[0])

    def test_undone(self):
        for factor in FACTORS:
            for one in some_views(factor) + [great_view(factor, zoom) for zoom in (0, 400, -400)]:
                undone = self.same_by_name(view_undone, one)
                self.assertEqual(view_then(one, undone), View(factor, 0, (0, 1)))
                self.assertEqual(view_then(undone, one), View(factor, 0, (0, 1)))

    def test_often(self):
        for factor in FACTORS:
            for one in some_views(factor, 2, 1):
                for times in range(-5, 6):
                    done = (0, Fraction(0))
                    for _ in range(abs(times)):
                        step = plain(one) if times > 0 else plain_undone(factor, plain(one))
                        done = plain_then(factor, done, step)
                    self.assertEqual(plain(self.same_by_name(view_often, one, times)), done)
            for times in (MANY, -MANY):
                self.assertEqual(view_often(View(factor, 0, (-7, factor)), times).shift, pair(Fraction(-7 * times, factor)))

    def test_order(self):
        for factor in FACTORS:
            for one in some_views(factor) + [great_view(factor, 0)]:
                still = plain(one) == (0, 0)
                self.assertEqual(self.same_by_name(view_order, one), 1 if still else None)
                self.assertIs(any(plain(view_often(one, times)) == (0, 0) for times in (1, 2, 3, 6, 60)), still)

    def test_gap_and_commute(self):
        for factor in FACTORS:
            some = some_views(factor, 2, 1)
            for one in some:
                for other in some:
                    ahead = plain_then(factor, plain(one), plain(other))
                    back = plain_then(factor, plain_undone(factor, plain(one)), plain_undone(factor, plain(other)))
                    gap = plain_then(factor, ahead, back)
                    self.assertEqual(plain(self.same_by_name(view_gap, one, other)), gap)
                    commute = self.same_by_name(do_views_commute, one, other)
                    self.assertIs(commute, ahead == plain_then(factor, plain(other), plain(one)))
                    self.assertIs(commute, gap == (0, 0))

    def test_gap_and_commute_with_too_great_zooms_on_the_way(self):
        for one, other in [(400, 400), (-400, -400), (400, 1), (-1, -400)]:
            first, second = view(2, one, 3), view(2, other, 5)
            ahead = plain_then(2, plain(first), plain(second))
            back = plain_then(2, plain_undone(2, plain(first)), plain_undone(2, plain(second)))
            self.assertEqual(plain(view_gap(first, second)), plain_then(2, ahead, back))
            self.assertIs(do_views_commute(first, second), False)
            self.assertIs(do_views_commute(View(2, one, (0, 1)), View(2, other, (0, 1))), True)


class TestTooGreat(Case):
    def test_then(self):
        for one, other in [(400, 1), (1, 400), (-400, -1), (200, 201), (400, 400), (-400, -400)]:
            self.fails(TooGreat, one + other, view_then, view(3, one, 1), view(3, other, 2))
        for one, other in [(400, 0), (399, 1), (-200, -200), (400, -400), (-399, -1)]:
            self.assertEqual(view_then(view(3, one, 1), view(3, other, 2)).zoom, one + other)

    def test_often(self):
        for zoom, times in [(1, 401), (-1, 401), (1, -401), (400, 2), (3, 134), (7, MANY), (-7, MANY), (400, -MANY)]:
            self.fails(TooGreat, zoom * times, view_often, view(2, zoom, Fraction(1, 2)), times)
            self.fails(TooGreat, zoom * times, view_often, times=times, one=view(5, zoom, 0))
        for zoom, times in [(1, 400), (-1, 400), (400, 1), (400, -1), (200, -2), (3, 133), (7, 57), (400, 0)]:
            one = view(4, zoom, Fraction(3, 2))
            done = view_often(one, times)
            self.assertEqual(done.zoom, zoom * times)
            self.assertEqual(view_shows(done, view_stays(one)[0]), view_stays(one)[0])

    def test_other_errors_are_ahead(self):
        great, other = View(2, 400, (0, 1)), View(3, 400, (0, 1))
        self.fails(OtherWorld, other, view_then, great, other)
        self.fails(InvalidNumber, None, view_often, great, None)


class TestLikeness(Case):
    def check(self, one, other):
        """Check what is told of two views, and return whether they are alike."""
        alike = self.same_by_name(is_view_alike, one, other)
        shown = self.same_by_name(view_alike, one, other)
        self.assertEqual(shown is not None, alike)
        if shown is not None:
            self.assertIs(shown.__class__, View)
            ahead = plain_then(one.factor, plain(shown), plain(one))
            self.assertEqual(plain_then(one.factor, ahead, plain_undone(one.factor, plain(shown))), plain(other))
        return alike

    def test_against_a_plain_search(self):
        for factor in FACTORS:
            movers = [(zoom, shift) for zoom in range(-4, 5) for shift in shifts(factor, 3, 1)]
            some = some_views(factor, 2, 1)
            for one in some[::2]:
                likes = set()
                for c in movers:
                    ahead = plain_then(factor, c, plain(one))
                    likes.add(plain_then(factor, ahead, plain_undone(factor, c)))
                for other in some:
                    self.assertEqual(self.check(one, other), plain(other) in likes, (str(one), str(other)))

    def test_zoom_0_exactly_by_powers(self):
        for factor in FACTORS:
            some = [Fraction(0)] + [sign * Fraction(top, factor ** deep) for sign in (1, -1)
                                    for top in (1, 2, 3, 4, 5, 6, 8, 9, 16, 45) for deep in (0, 1, 3)]
            for one in some:
                for other in some:
                    powers = any(other == one * Fraction(factor) ** power for power in range(-9, 10))
                    self.assertIs(self.check(view(factor, 0, one), view(factor, 0, other)), powers)
        self.assertIs(self.check(view(4, 0, 1), view(4, 0, 2)), False)
        self.assertIs(self.check(view(4, 0, 2), view(4, 0, Fraction(1, 8))), True)

    def test_other_zooms_by_remainders(self):
        rng = random.Random(1)
        alike = 0
        for _ in range(400):
            factor = rng.choice(FACTORS)
            one = random_view(rng, factor)
            other = View(factor, one.zoom, random_view(rng, factor).shift)
            if one.zoom:
                modulus = factor ** abs(one.zoom) - 1
                remainders = [int(shift * factor ** 3) % modulus for shift in (plain(one)[1], plain(other)[1])]
                plainly = any((remainders[0] * factor ** power - remainders[1]) % modulus == 0 for power in range(5))
                self.assertIs(self.check(one, other), plainly)
                alike += plainly
            self.assertIs(self.check(one, one), True)
        self.assertGreater(alike, 20)

    def test_moved_ones_are_alike(self):
        rng = random.Random(2)
        for _ in range(300):
            factor = rng.choice(FACTORS)
            one, c = random_view(rng, factor, 9), random_view(rng, factor, 9)
            self.assertIs(self.check(one, view_then(view_then(c, one), view_undone(c))), True)
            self.assertIs(is_view_alike(one, view_undone(one)), one.zoom == 0 and one.shift == (0, 1))

    def test_great_numbers(self):
        for factor in FACTORS:
            for zoom in (400, -400, 37):
                one = great_view(factor, zoom)
                c = view(factor, 3, MANY)
                moved = plain_then(factor, plain_then(factor, plain(c), plain(one)), plain_undone(factor, plain(c)))
                self.assertIs(self.check(one, view(factor, *moved)), True)
                self.assertIs(self.check(one, view(factor, zoom, moved[1] + 1)), factor == 2 and abs(zoom) == 1)
            self.assertIs(self.check(view(factor, 0, MANY), view(factor, 0, MANY * factor ** 100)), True)
            self.assertIs(self.check(view(factor, 0, MANY), view(factor, 0, MANY * factor ** 100 + 1)), False)
        self.assertIs(self.check(great_view(2, 1), view(2, 1, 17)), True)
        self.assertIs(self.check(great_view(2, -1), view(2, -1, 17)), True)

    def test_edges(self):
        self.assertIs(self.check(view(2, 1, 0), view(2, -1, 0)), False)
        self.assertIs(self.check(view(2, 0, 0), view(2, 0, 0)), True)
        self.assertIs(self.check(view(2, 0, 0), view(2, 0, 1)), False)
        self.assertIs(self.check(view(2, 0, 1), view(2, 0, -1)), False)
        self.assertIs(self.check(view(3, 1, 0), view(3, 1, 1)), False)
        self.assertIs(self.check(view(3, 1, 0), view(3, 1, 2)), True)
        self.assertIs(self.check(view(2, 2, 1), view(2, 2, 2)), True)
        self.assertIs(self.check(view(2, 2, 1), view(2, 2, 3)), False)
        self.assertIs(self.check(view(4, 1, 1), view(4, 1, 2)), False)

    def test_what_shows_likeness_may_be_too_great(self):
        low, high = View(2, 0, (1, 2 ** 300)), View(2, 0, (2 ** 300, 1))
        self.assertIs(is_view_alike(low, high), True)
        self.fails(TooGreat, 600, view_alike, low, high)
        self.fails(TooGreat, -600, view_alike, high, low)
        self.assertEqual(view_alike(View(2, 0, (1, 2 ** 200)), View(2, 0, (2 ** 200, 1))).zoom, 400)
        self.fails(TooGreat, 401, view_alike, View(2, 0, (1, 2 ** 200)), View(2, 0, (2 ** 201, 1)))


class TestRoots(Case):
    def test_against_a_plain_search(self):
        for factor in FACTORS:
            for degree in range(1, 5):
                some = some_views(factor, 2, 2)
                by_power = {}
                for root in some:
                    by_power.setdefault(str(view_often(root, degree)), root)
                for one in some:
                    found = self.same_by_name(view_root, one, degree)
                    if found is None:
                        self.assertNotIn(str(one), by_power)
                    else:
                        self.assertEqual(view_often(found, degree), one)

    def test_powers_have_roots_and_others_have_none(self):
        rng = random.Random(3)
        for _ in range(300):
            factor = rng.choice(FACTORS)
            root, degree = random_view(rng, factor), rng.randint(1, 9)
            power = view_often(root, degree)
            self.assertEqual(view_root(power, degree), root)
            beside = view(factor, power.zoom, plain(power)[1] + 1)
            found = view_root(beside, degree)
            growth = Fraction(factor)
            share = Fraction(1, degree)
            if power.zoom:
                share = (growth ** root.zoom - 1) / (growth ** power.zoom - 1)
            self.assertEqual(found is not None, plain_fits(factor, share * plain(beside)[1]))
            if found is not None:
                self.assertEqual(view_often(found, degree), beside)

    def test_edges(self):
        self.assertEqual(view_root(view(2, 0, 3), 2), view(2, 0, Fraction(3, 2)))
        self.assertIsNone(view_root(view(2, 0, 1), 3))
        self.assertIsNone(view_root(view(2, 0, 1), 6))
        self.assertEqual(view_root(view(4, 0, 1), 2), view(4, 0, Fraction(1, 2)))
        self.assertIsNone(view_root(view(3, 0, 1), 2))
        self.assertIsNone(view_root(view(2, 1, 0), 2))
        self.assertEqual(view_root(view(5, -400, 0), 400), view(5, -1, 0))
        self.assertIsNone(view_root(view(5, -400, 0), 401))
        self.assertIsNone(view_root(view(5, 1, 0), MANY))
        self.assertEqual(view_root(view(5, 0, 0), MANY), view(5, 0, 0))
        self.assertEqual(view_root(view(5, 0, 2 * MANY), MANY), view(5, 0, 2))
        self.assertIsNone(view_root(view(5, 0, 2 * MANY + 1), MANY))
        self.assertEqual(view_root(view(2, 2, 3), 2), view(2, 1, 1))
        self.assertIsNone(view_root(view(2, 2, 1), 2))
        self.assertEqual(view_root(view(3, -4, 7), 1), view(3, -4, 7))


class TestErrors(Case):
    def test_no_view(self):
        good = View(2, 1, (1, 2))
        for value in NO_VIEWS:
            for call in ONE_VIEW:
                self.fails(NotAChange, value, call, value)
                self.fails(NotAChange, value, call, one=value)
            for call in TWO_VIEWS:
                self.fails(NotAChange, value, call, value, good)
                self.fails(NotAChange, value, call, good, value)
                self.fails(NotAChange, value, call, value, None)
                self.fails(NotAChange, value, call, other=None, one=value)
            for call in (view_often, view_root, view_shows):
                self.fails(NotAChange, value, call, value, 1)
                self.fails(NotAChange, value, call, value, None)

    def test_other_world(self):
        for factor in FACTORS:
            for other in (View(n, 0, (0, 1)) for n in FACTORS if n != factor):
                for call in TWO_VIEWS:
                    self.fails(OtherWorld, other, call, View(factor, 0, (0, 1)), other)
                    self.fails(OtherWorld, other, call, other=other, one=View(factor, 400, (1, 1)))

    def test_no_number(self):
        for value in NO_INTEGERS + [View(2, 0, (0, 1)), (1, 1)]:
            for call in (view_often, view_root):
                for one in (View(2, 0, (1, 1)), View(2, 400, (1, 1))):
                    self.fails(InvalidNumber, value, call, one, value)
        for value in (0, -1, -MANY):
            self.fails(InvalidNumber, value, view_root, degree=value, one=View(2, 0, (0, 1)))
        for value in NO_FRACTIONS + [View(2, 0, (0, 1))]:
            self.fails(InvalidNumber, value, view_shows, View(2, 0, (1, 1)), value)
            self.fails(InvalidNumber, value, view_shows, point=value, one=View(3, 400, (1, 1)))


if __name__ == "__main__":
    unittest.main()
