"""Rounds: texts, what is done with one or two rounds, likeness, roots, rows of steps; errors and their order, edges."""

import itertools
import random
import unittest

from helpers import Case, ODD, check_defined
from pressworlds import rounds
from pressworlds.errors import (InvalidLamps, InvalidLevels, InvalidNumber, InvalidText, InvalidWalk, NotAChange,
                                OtherWorld, TooFar, TooGreat, TooMany)
from pressworlds.points import Point
from pressworlds.rounds import (Round, do_rounds_commute, is_round_alike, round_alike, round_gap, round_often,
                                round_order, round_root, round_steps, round_then, round_undone, round_walk,
                                round_walked)
from pressworlds.slides import Slide
from pressworlds.views import View

TWO = "one other"
FUNCTIONS = {"round_then": TWO, "round_undone": "one", "round_often": "one times", "round_order": "one",
             "round_gap": TWO, "is_round_alike": TWO, "round_alike": TWO, "do_rounds_commute": TWO,
             "round_root": "one degree", "round_walked": "levels walk", "round_steps": "one", "round_walk": "one"}
CLASSES = {"Round": ("levels lamps end", "__init__ read levels lamps end __str__ __eq__")}
ONE_ROUND = [round_undone, round_order, round_steps, round_walk]
TWO_ROUNDS = [round_then, round_gap, is_round_alike, round_alike, do_rounds_commute]
NO_ROUNDS = ODD + [(2, (), 1), "lamps 2 end 0 dark", Slide(1, 1), Point((1,)), View(2, 0, (0, 1)), Round]
NO_INTEGERS = [None, True, False, "1", "", (1,), [1], (), {}, b"1", object()]
LEVELS = (2, 3, 5, 7)
GREAT = 10 ** 30
MANY = 10 ** 39 + 3


def made_of(levels, picture, end):
    return Round(levels, tuple(sorted((place, level % levels) for place, level in picture.items() if level % levels)), end)


def row(levels, many, end, first=0, apart=1):
    """Return a round with so many lamps of level 1 beside one another."""
    return Round(levels, tuple((first + apart * at, 1) for at in range(many)), end)


def street(levels, lamps, end, place=0, lit=None):
    """Go a round from a place on a street of lit lamps, lamp by lamp; return the street and the place after it."""
    lit = dict(lit or {})
    for at, level in lamps:
        lit[place + at] = (lit.get(place + at, 0) + level) % levels
    return {at: level for at, level in lit.items() if level}, place + end


def plain_then(one, other):
    lit, place = street(one.levels, one.lamps, one.end)
    lit, place = street(one.levels, other.lamps, other.end, place, lit)
    return Round(one.levels, tuple(sorted(lit.items())), place)


def plain_undone(one):
    lamps = tuple((at - one.end, one.levels - level) for at, level in one.lamps)
    return Round(one.levels, lamps, -one.end)


def plain_often(one, times):
    done = Round(one.levels, (), 0)
    for _ in range(abs(times)):
        done = plain_then(done, one if times > 0 else plain_undone(one))
    return done


def key(one):
    return one.levels, one.lamps, one.end


def all_rounds(levels, places, ends):
    """Return all rounds with lamps at these places alone, and these ends."""
    return [made_of(levels, dict(zip(places, choice)), end)
            for choice in itertools.product(range(levels), repeat=len(places)) for end in ends]


def random_round(rng, levels, most, ends, share=0.4):
    picture = {place: rng.randrange(levels) for place in range(-most, most + 1) if rng.random() < share}
    return made_of(levels, picture, rng.randint(-ends, ends))


class TestClass(Case):
    def test_interface(self):
        check_defined(self, rounds, FUNCTIONS, CLASSES)

    def test_properties_by_position_and_by_name(self):
        for levels, lamps, end, text in [
                (3, ((0, 1), (2, 2)), 5, "lamps 3 end 5 at 0:1 2:2"), (3, (), 5, "lamps 3 end 5 dark"),
                (2, ((-4, 1),), 0, "lamps 2 end 0 at -4:1"), (7, ((-1, 6), (0, 3)), -9, "lamps 7 end -9 at -1:6 0:3"),
                (5, ((-MANY, 4), (MANY, 1)), -GREAT, f"lamps 5 end {-GREAT} at {-MANY}:4 {MANY}:1")]:
            for made in (Round(levels, lamps, end), Round(levels=levels, lamps=lamps, end=end),
                         Round(end=end, lamps=lamps, levels=levels), Round.read(text), Round.read(text=text)):
                self.assertEqual((made.levels, made.lamps, made.end, str(made)), (levels, lamps, end, text))
                self.assertEqual([value.__class__ for value in (made.levels, made.lamps, made.end)], [int, tuple, int])
                self.assertIs(bool(made), True)

    def test_wrong_levels_lamps_end_in_this_order(self):
        for levels in NO_INTEGERS + [0, 1, 4, 6, 8, -2, 11, MANY, Round(2, (), 0)]:
            for lamps, end in (((), 0), (None, None), (((0, 0),), "x")):
                self.fails(InvalidLevels, levels, Round, levels, lamps, end)
            self.fails(InvalidLevels, levels, Round, end=None, lamps=None, levels=levels)
        for lamps in ODD + [[(0, 1)], "dark", ((1, 1), [2, 1])]:
            if not isinstance(lamps, tuple):
                self.fails(InvalidLamps, None, Round, 2, lamps, 0)
                self.fails(InvalidLamps, None, Round, 2, lamps, None)
        for end in NO_INTEGERS + [Round(2, (), 0)]:
            for lamps in ((), ((0, 1),)):
                self.fails(InvalidNumber, end, Round, 2, lamps, end)

    def test_wrong_lamps(self):
        for levels in LEVELS:
            good = ((-3, 1), (0, levels - 1), (7, 1))
            wrong = [7, None, (), (8,), (8, 0), (8, levels), (8, -1), (8, 1, 1), [8, 1], (True, 1), (8, True), (8, False),
                     ("8", 1), (8, "1"), (None, 1), (8, None), ((8,), 1), "8:1", (7, 1), (6, 1), (-3, 1), (0, 1), (8, MANY)]
            for lamp in wrong:
                self.fails(InvalidLamps, 3, Round, levels, good + (lamp,), 0)
                self.fails(InvalidLamps, 3, Round, levels, good + (lamp, None, (9, 1)), None)
            for lamp in wrong[:-5]:
                self.fails(InvalidLamps, 0, Round, levels, (lamp,) + good, 0)
            self.fails(InvalidLamps, 1, Round, levels, ((5, 1), (5, 1)), 0)
            self.fails(InvalidLamps, 2, Round, levels, ((5, 1), (6, 1), (-7, 1), (8, 0)), 0)
            self.fails(InvalidLamps, 0, Round, levels, ((5, levels), (5, 1)), 0)
            for level in range(1, levels):
                self.assertEqual(Round(levels, ((5, level),), 0).lamps, ((5, level),))
            many = tuple((place, 1) for place in range(401))
            self.assertEqual(len(Round(levels, many[1:], 0).lamps), 400)
            self.fails(InvalidLamps, 400, Round, levels, many, 0)
            self.fails(InvalidLamps, 400, Round, levels, many[:-1] + (None,), None)
            self.fails(InvalidLamps, 399, Round, levels, many[:-2] + (None, None), 0)

    def test_wrong_texts(self):
        wrong = ["lamps", "lamps 2", "lamps 2 end", "lamps 2 end 1", "lamps 2 end 1 at", "lamps 2 end 1 at ",
                 "lamps 2 end 1 dark ", " lamps 2 end 1 dark", "lamps 2 end 1 dark\n", "\nlamps 2 end 1 dark",
                 "lamps 2 end 1  dark", "lamps 4 end 1 dark", "lamps 1 end 1 dark", "lamps 02 end 1 dark",
                 "lamps 2 end 01 dark", "lamps 2 end -0 dark", "lamps 2 end +1 dark", "lamps 2 end x dark",
                 "lamps x end 1 dark", "lamps 2 end 1 at 0:0", "lamps 2 end 1 at 0:2", "lamps 2 end 1 at 0",
                 "lamps 2 end 1 at 0:", "lamps 2 end 1 at :1", "lamps 2 end 1 at 0:1:1", "lamps 2 end 1 at 00:1",
                 "lamps 2 end 1 at 0:01", "lamps 2 end 1 at -0:1", "lamps 2 end 1 at 0:1 0:1", "lamps 2 end 1 at 1:1 0:1",
                 "lamps 2 end 1 at 0:1 ", "lamps 2 end 1 at 0:1  1:1", "lamps 2 end 1 at 0:1,1:1", "lamps 2 end 1 at 0: 1",
                 "lamps 2 end 1 at dark", "lamps 2 end 1 dark at 0:1", "lamps 2 end 1 dark 0:1", "lamps 2 end 1 on 0:1",
                 "lamps 2 at 0:1 end 1", "Lamps 2 end 1 dark", "lamps 2 ends 1 dark", "lamps 2 end 1 Dark",
                 "lamps 2 end 1 dark\nlamps 2 end 1 dark", "lamps 2 end 1 at 0:-1", "lamps 2 end 1 at x:1", "ruler + 1",
                 "lamps 3 end 1 at 0:3", "lamps 2 end  at 0:1", "lamps  end 1 dark", "lamps 2 end 1 at 0:1\n1:1",
                 "lamps 2 end 0 at " + " ".join(f"{place}:1" for place in range(401))]
        for text in wrong + ODD + [Round(2, (), 0)]:
            self.fails(InvalidText, text, Round.read, text)
            self.fails(InvalidText, text, Round.read, text=text)
        text = "lamps 2 end 0 at " + " ".join(f"{place}:1" for place in range(400))
        self.assertEqual((len(Round.read(text).lamps), str(Round.read(text))), (400, text))

    def test_equal_exactly_if_texts_are(self):
        some = all_rounds(2, (0, 1), (0, 1)) + all_rounds(3, (0, 1), (0, 1)) + all_rounds(2, (-1, 0), (0, -1))
        for one in some:
            for other in some:
                self.assertIs(one == other, str(one) == str(other))
                self.assertIs(one != other, str(one) != str(other))
            self.assertEqual(Round.read(str(one)), one)
        for value in ODD + [(2, (), 0), "lamps 2 end 0 dark", Slide(1, 0)]:
            self.assertIs(Round(2, (), 0) == value, False)
            self.assertIs(value == Round(2, (), 0), False)
            self.assertIs(Round(2, (), 0) != value, True)

    def test_does_not_change(self):
        made = Round(3, ((0, 1), (4, 2)), 1)
        for name in ("levels", "lamps", "end"):
            with self.assertRaises(AttributeError):
                setattr(made, name, 1)
        round_then(made, made), round_often(made, 9), round_gap(made, Round(3, ((1, 1),), 0)), round_walk(made)
        self.assertEqual(str(made), "lamps 3 end 1 at 0:1 4:2")


class TestDone(Case):
    def test_then_is_what_is_switched(self):
        rng = random.Random(1)
        for levels in LEVELS:
            for _ in range(150):
                one, other = random_round(rng, levels, 4, 5), random_round(rng, levels, 4, 5)
                self.assertEqual(self.same_by_name(round_then, one, other), plain_then(one, other))
        one, other = Round(5, ((GREAT, 2),), MANY), Round(5, ((GREAT - MANY, 3), (1, 1)), -1)
        self.assertEqual(round_then(one, other), Round(5, ((MANY + 1, 1),), MANY - 1))

    def test_undone(self):
        rng = random.Random(2)
        for levels in LEVELS:
            for one in [random_round(rng, levels, 4, 5) for _ in range(100)] + [Round(levels, ((MANY, 1),), -GREAT)]:
                undone = self.same_by_name(round_undone, one)
                self.assertEqual(undone, plain_undone(one))
                self.assertEqual(round_then(one, undone), Round(levels, (), 0))
                self.assertEqual(round_then(undone, one), Round(levels, (), 0))

    def test_often(self):
        rng = random.Random(3)
        for levels in LEVELS:
            for _ in range(60):
                one = random_round(rng, levels, 5, 4)
                for times in (-9, -4, -2, -1, 0, 1, 2, 3, 5, 7, 12, 15):
                    self.assertEqual(self.same_by_name(round_often, one, times), plain_often(one, times))
            one = random_round(rng, levels, 5, 0)
            self.assertEqual(round_often(one, MANY), plain_often(one, MANY % levels))
            self.assertEqual(round_often(one, -MANY * levels), Round(levels, (), 0))

    def test_order(self):
        for levels in LEVELS:
            for one in all_rounds(levels, (-1, 3), (-1, 0, 1)):
                done = [times for times in range(1, 9) if round_often(one, times) == Round(levels, (), 0)]
                self.assertEqual(self.same_by_name(round_order, one), done[0] if done else None)
        self.assertIsNone(round_order(Round(2, (), MANY)))
        self.assertEqual(round_order(Round(7, ((MANY, 3),), 0)), 7)

    def test_gap_and_commute(self):
        rng = random.Random(4)
        commuting = 0
        for levels in LEVELS:
            for _ in range(200):
                one, other = random_round(rng, levels, 2, 2, 0.2), random_round(rng, levels, 2, 2, 0.2)
                ahead = plain_then(one, other)
                gap = plain_then(ahead, plain_then(plain_undone(one), plain_undone(other)))
                self.assertEqual(self.same_by_name(round_gap, one, other), gap)
                commute = self.same_by_name(do_rounds_commute, one, other)
                self.assertIs(commute, ahead == plain_then(other, one))
                self.assertIs(commute, gap == Round(levels, (), 0))
                commuting += commute
                self.assertIs(do_rounds_commute(one, round_often(one, 5)), True)
        self.assertGreater(commuting, 40)
        self.assertIs(do_rounds_commute(Round(2, ((0, 1),), MANY), Round(2, ((1, 1),), GREAT)), False)


class TestTooGreat(Case):
    def test_then(self):
        for levels in LEVELS:
            one, other = row(levels, 300, 1000), row(levels, 101, 0)
            self.fails(TooGreat, 401, round_then, one, other)
            self.fails(TooGreat, 600, round_then, other=one, one=one)
            self.assertEqual(len(round_then(one, row(levels, 100, 0)).lamps), 400)
            self.assertEqual(len(round_then(row(levels, 400, 0), row(levels, 400, 5)).lamps), 0 if levels == 2 else 400)
            self.fails(TooGreat, 401, round_then, row(levels, 400, 0), row(levels, 1, 0, 400))

    def test_often(self):
        for levels in LEVELS:
            one = row(levels, 1, 1)
            self.assertEqual(len(round_often(one, 400).lamps), 400)
            self.assertEqual(len(round_often(one, -400).lamps), 400)
            for times in (401, -401, MANY, -MANY, GREAT):
                self.fails(TooGreat, abs(times), round_often, one, times)
                self.fails(TooGreat, abs(times), round_often, times=times, one=row(levels, 1, -3, 17))
            self.fails(TooGreat, 3 * MANY, round_often, row(levels, 3, 5), MANY)
            # Of two lamps one end apart, of which one is as much as the other lacks, only the outermost ones stay.
            edge = Round(levels, ((0, 1), (4, levels - 1)), 4)
            done = round_often(edge, MANY)
            self.assertEqual((done.lamps, done.end), (((0, 1), (4 * MANY, levels - 1)), 4 * MANY))
            done = round_often(edge, -MANY)
            self.assertEqual((done.lamps, done.end), (((-4 * MANY, levels - 1), (0, 1)), -4 * MANY))
            wide = Round(levels, ((0, 1), (4 * GREAT, levels - 1)), 4)
            self.fails(TooGreat, 2 * GREAT, round_often, wide, GREAT)
            self.fails(TooGreat, 2 * GREAT, round_often, wide, 2 * GREAT)
            self.assertEqual(len(round_often(wide, 200).lamps), 400)
            self.fails(TooGreat, 402, round_often, wide, -201)

    def test_lamps_that_go_out_again(self):
        for levels in LEVELS:
            # So many lamps beside one another and the end 1: each lamp is taken on as often, and in the end less.
            one = row(levels, levels, 1)
            self.assertEqual(round_often(one, 9), plain_often(one, 9))
            done = round_often(one, MANY)
            self.assertEqual(len(done.lamps), 2 * (levels - 1))
            self.assertEqual(done.end, MANY)
            self.assertEqual(done.lamps[0], (0, 1))
            self.assertEqual(done.lamps[-1], (MANY + levels - 2, 1))
            self.assertEqual(round_then(round_often(one, MANY), round_often(one, 1 - MANY)), one)

    def test_undone_and_gap(self):
        for levels in LEVELS:
            self.assertEqual(len(round_undone(row(levels, 400, 3)).lamps), 400)
            one, other = row(levels, 200, 1000), row(levels, 1, 3000, 500)
            self.fails(TooGreat, 402, round_gap, one, other)
            self.fails(TooGreat, 402, round_gap, other, one)
            self.assertEqual(len(round_gap(row(levels, 199, 1000), other).lamps), 400)
            full = row(levels, 400, 700)
            self.fails(TooGreat, 798, round_gap, full, row(levels, 1, 700))
            self.assertIs(do_rounds_commute(full, full), True)
            self.assertEqual(round_gap(full, full), Round(levels, (), 0))

    def test_walked(self):
        for levels in LEVELS:
            self.assertEqual(len(round_walked(levels, "+>" * 400).lamps), 400)
            self.fails(TooGreat, 401, round_walked, levels, "+<" * 401)
            self.fails(TooGreat, 2000, round_walked, levels, "+>" * 2000)

    def test_other_errors_are_ahead(self):
        great, other = row(2, 400, 1000), row(3, 400, 1000)
        self.fails(OtherWorld, other, round_then, great, other)
        self.fails(InvalidNumber, None, round_often, great, None)


class TestLikeness(Case):
    def check(self, one, other):
        """Check what is told of two near rounds, and return whether they are alike."""
        alike = self.same_by_name(is_round_alike, one, other)
        shown = self.same_by_name(round_alike, one, other)
        self.assertEqual(shown is not None, alike)
        if shown is not None:
            self.assertIs(shown.__class__, Round)
            self.assertEqual(plain_then(plain_then(shown, one), plain_undone(shown)), other)
        return alike

    def test_against_a_plain_search(self):
        for levels, places, wide in ((2, (0, 1, 2), range(-4, 5)), (3, (0, 1), range(-2, 3))):
            movers = all_rounds(levels, wide, range(-3, 4))
            some = all_rounds(levels, places, (-2, -1, 0, 1, 2))
            for one in some[::3]:
                likes = {key(plain_then(plain_then(c, one), plain_undone(c))) for c in movers}
                for other in some:
                    self.assertEqual(self.check(one, other), key(other) in likes, (str(one), str(other)))

    def test_exactly_by_rings_of_places(self):
        rng = random.Random(6)
        told = []
        for _ in range(600):
            levels = rng.choice(LEVELS)
            one = random_round(rng, levels, 3, 3, 0.3)
            other = Round(levels, random_round(rng, levels, 3, 0, 0.3).lamps, one.end)
            if one.end == 0:
                plain = any(other.lamps == tuple((at + by, level) for at, level in one.lamps) for by in range(-7, 8))
            else:
                rings = [[sum(level for at, level in each.lamps if (at - spot) % one.end == 0) % levels
                          for spot in range(abs(one.end))] for each in (one, other)]
                plain = any(rings[0][by:] + rings[0][:by] == rings[1] for by in range(abs(one.end)))
            told.append(self.check(one, other))
            self.assertEqual(told[-1], plain)
        self.assertTrue(60 < sum(told) < 540)

    def test_moved_ones_are_alike(self):
        rng = random.Random(7)
        for _ in range(300):
            levels = rng.choice(LEVELS)
            one, c = random_round(rng, levels, 9, 9), random_round(rng, levels, 9, 9)
            moved = round_then(round_then(c, one), round_undone(c))
            self.assertIs(self.check(one, moved), True)
            self.assertIs(is_round_alike(one, round_undone(one)) and one.end != 0, False)

    def test_far_ones(self):
        for levels in LEVELS:
            for end in (0, 1, -1, MANY, -GREAT):
                one = Round(levels, ((0, 1), (5, levels - 1), (MANY, 1)), end)
                by = 10 ** 25 + 7
                moved = Round(levels, tuple((at + by, level) for at, level in one.lamps), end)
                self.assertIs(self.same_by_name(is_round_alike, one, moved), True)
                beside = Round(levels, ((0, 1), (5, levels - 1), (MANY + 1, 1)), end)
                self.assertIs(is_round_alike(one, beside), abs(end) == 1)
            one = Round(levels, ((0, 1), (GREAT, 1)), GREAT)
            self.assertIs(is_round_alike(one, Round(levels, ((7, 2),) if levels > 2 else (), GREAT)), True)
            self.assertIs(is_round_alike(one, Round(levels, ((7, 1),), GREAT)), False)
        many = row(2, 400, 1000)
        self.assertIs(is_round_alike(many, row(2, 400, 1000, 777)), True)
        self.assertIs(is_round_alike(many, row(2, 399, 1000, 777)), False)

    def test_near_and_too_far(self):
        for levels in LEVELS:
            near = Round(levels, ((-40, 1), (40, 1)), 40)
            for one, other in [(near, Round(levels, ((-40, 1), (40, 1)), 40)), (near, Round(levels, ((39, 1),), -40)),
                               (near, Round(levels, ((7, 2),) if levels > 2 else (), 40))]:
                self.check(one, other)
            for far in (Round(levels, ((41, 1),), 0), Round(levels, ((-41, 1),), 40), Round(levels, (), 41),
                        Round(levels, (), -41), Round(levels, ((0, 1), (MANY, 1)), 0), row(levels, 400, 0)):
                self.fails(TooFar, far, round_alike, far, near)
                self.fails(TooFar, far, round_alike, near, far)
                self.fails(TooFar, far, round_alike, other=near, one=far)
                self.fails(TooFar, far, round_alike, far, Round(levels, (), MANY))
                self.fails(TooFar, far, round_alike, far, far)
                self.same_by_name(is_round_alike, near, far)
        self.fails(OtherWorld, value := Round(3, (), 41), round_alike, Round(2, (), 41), value)

    def test_edges(self):
        lit = Round(2, ((0, 1),), 1)
        self.assertIs(self.check(lit, Round(2, (), 1)), False)
        self.assertIs(self.check(lit, Round(2, ((40, 1),), 1)), True)
        self.assertIs(self.check(Round(2, (), 1), Round(2, ((0, 1), (1, 1)), 1)), True)
        self.assertIs(self.check(Round(2, (), 2), Round(2, ((0, 1), (1, 1)), 2)), False)
        self.assertIs(self.check(Round(2, (), 0), Round(2, (), 0)), True)
        self.assertIs(self.check(Round(2, (), 0), Round(2, (), 1)), False)
        self.assertIs(self.check(Round(3, ((-40, 1),), 0), Round(3, ((40, 1),), 0)), True)
        self.assertIs(self.check(Round(3, ((-40, 1),), 0), Round(3, ((40, 2),), 0)), False)


class TestRoots(Case):
    def test_against_a_plain_search(self):
        for levels, places in ((2, range(-2, 3)), (3, range(-1, 3)), (5, (-1, 0, 1))):
            roots = all_rounds(levels, places, (-2, -1, 0, 1, 2))
            for degree in (1, 2, 3, 5, 6):
                powers = {key(plain_often(root, degree)) for root in roots}
                for one in all_rounds(levels, (0, 1), (-3, -2, -1, 0, 1, 2, 3)) + roots[::17]:
                    found = self.same_by_name(round_root, one, degree)
                    if found is None:
                        self.assertNotIn(key(one), powers, (str(one), degree))
                    else:
                        self.assertEqual(plain_often(found, degree), one)

    def test_powers_have_roots(self):
        rng = random.Random(8)
        for _ in range(400):
            levels = rng.choice(LEVELS)
            root, degree = random_round(rng, levels, 6, 5), rng.randint(1, 9)
            power = round_often(root, degree)
            found = round_root(power, degree)
            self.assertEqual(round_often(found, degree), power)
            if root.end:
                self.assertEqual(found, root)
                lamp = made_of(levels, {rng.randint(-6, 6): 1}, 0)
                self.assertIsNone(round_root(round_then(lamp, power), degree) if degree > 1 else None)

    def test_end_0(self):
        for levels in LEVELS:
            lit, dark = Round(levels, ((3, 1), (MANY, levels - 1)), 0), Round(levels, (), 0)
            for degree in (levels, 2 * levels, levels * MANY):
                self.assertIsNone(round_root(lit, degree))
                self.assertEqual(round_often(round_root(dark, degree), degree), dark)
            for degree in (1, levels + 1, levels - 1, levels * MANY + 1, levels * MANY - 1):
                self.assertEqual(round_often(round_root(lit, degree), degree), lit)

    def test_far_ones(self):
        for levels in LEVELS:
            for root in (Round(levels, ((GREAT, 1), (GREAT + 7, levels - 1)), 7), Round(levels, ((0, 1), (MANY, 1)), -GREAT),
                         Round(levels, (), MANY)):
                for degree in (2, 7, 40):
                    self.assertEqual(self.same_by_name(round_root, round_often(root, degree), degree), root)
            edges = Round(levels, ((0, 1), (GREAT * 6, levels - 1)), 6 * GREAT)
            self.assertEqual(round_root(edges, GREAT), Round(levels, ((0, 1), (6, levels - 1)), 6))
            self.assertIsNone(round_root(edges, 7))
            self.assertIsNone(round_root(Round(levels, ((0, 1), (GREAT * 6 + 1, levels - 1)), 6 * GREAT), GREAT))
            self.assertIsNone(round_root(Round(levels, ((0, 1),), MANY), MANY))
            self.assertEqual(round_root(Round(levels, (), MANY), MANY), Round(levels, (), 1))
            self.assertIsNone(round_root(Round(levels, (), MANY), MANY + 1))

    def test_too_great(self):
        # The root of a round with two lamps can have all those between, on and back again in turn.
        for levels in LEVELS:
            for many in (2, 400):
                power = Round(levels, ((0, 1), (2 * many, levels - 1)), 4)
                root = Round(levels, tuple((2 * at, levels - 1 if at % 2 else 1) for at in range(many)), 2)
                self.assertEqual(round_root(power, 2), root)
                self.assertEqual(round_often(root, 2), power)
            for many in (402, GREAT):
                power = Round(levels, ((0, 1), (2 * many, levels - 1)), 4)
                self.fails(TooGreat, many, round_root, power, 2)
                self.fails(TooGreat, many, round_root, degree=2, one=power)


class TestSteps(Case):
    def plain_walked(self, levels, walk):
        place, lit = 0, {}
        for sign in walk:
            if sign == "+":
                lit[place] = lit.get(place, 0) + 1
            place += {"<": -1, ">": 1, "+": 0}[sign]
        return made_of(levels, lit, place)

    def test_walked(self):
        for levels in LEVELS:
            for size in range(7):
                for signs in itertools.product("<>+", repeat=size):
                    walk = "".join(signs)
                    self.assertEqual(round_walked(levels, walk), self.plain_walked(levels, walk))
            self.assertEqual(self.same_by_name(round_walked, levels, "+" * levels + ">"), Round(levels, (), 1))
            self.assertEqual(round_walked(levels, ""), Round(levels, (), 0))

    def test_walked_then_walked(self):
        rng = random.Random(9)
        for _ in range(200):
            levels = rng.choice(LEVELS)
            one, other = ("".join(rng.choice("<>+") for _ in range(rng.randrange(30))) for _ in range(2))
            done = round_then(round_walked(levels, one), round_walked(levels, other))
            self.assertEqual(round_walked(levels, one + other), done)

    def test_fewest_steps_against_all_rows(self):
        for levels, most in ((2, 9), (3, 8)):
            least = {}
            for size in range(most + 1):
                for signs in itertools.product("<>+", repeat=size):
                    least.setdefault(key(self.plain_walked(levels, "".join(signs))), size)
            for (_, lamps, end), size in least.items():
                one = Round(levels, lamps, end)
                self.assertEqual(self.same_by_name(round_steps, one), size, str(one))
                walk = self.same_by_name(round_walk, one)
                self.assertEqual(len(walk), size)
                self.assertEqual(self.plain_walked(levels, walk), one)

    def test_random_rounds(self):
        rng = random.Random(10)
        for _ in range(300):
            one = random_round(rng, rng.choice(LEVELS), 30, 50, 0.3)
            walk = round_walk(one)
            self.assertEqual(len(walk), round_steps(one))
            self.assertEqual(round_walked(one.levels, walk), one)

    def test_edges(self):
        for one, many in [(Round(2, (), 0), 0), (Round(2, (), 4000), 4000), (Round(2, (), -4000), 4000),
                          (Round(3, ((1999, 2),), 3997), 3999), (Round(7, ((0, 6),), 3994), 4000),
                          (Round(2, ((-1000, 1), (999, 1)), 999), 3001), (Round(5, ((-1000, 4), (1000, 4)), -8), 4000),
                          (Round(2, ((1999, 1),), 0), 3999), (Round(3, ((2000, 1),), 1), 4000)]:
            self.assertEqual(round_steps(one), many)
            self.assertEqual(len(round_walk(one)), many)
            self.assertEqual(round_walked(one.levels, round_walk(one)), one)

    def test_too_many(self):
        for one, many in [(Round(2, (), 4001), 4001), (Round(2, (), -MANY), MANY), (Round(7, ((0, 6),), 3995), 4001),
                          (Round(2, ((2000, 1),), 0), 4001), (Round(5, ((-1000, 4), (1000, 4)), -7), 4001),
                          (Round(3, ((-GREAT, 2), (MANY, 1)), 0), 2 * (GREAT + MANY) + 3)]:
            self.assertEqual(round_steps(one), many)
            self.fails(TooMany, many, round_walk, one)
            self.fails(TooMany, many, round_walk, one=one)


class TestErrors(Case):
    def test_no_round(self):
        good = Round(2, ((0, 1),), 1)
        for value in NO_ROUNDS:
            for call in ONE_ROUND:
                self.fails(NotAChange, value, call, value)
                self.fails(NotAChange, value, call, one=value)
            for call in TWO_ROUNDS:
                self.fails(NotAChange, value, call, value, good)
                self.fails(NotAChange, value, call, good, value)
                self.fails(NotAChange, value, call, value, None)
                self.fails(NotAChange, value, call, other=None, one=value)
            for call in (round_often, round_root):
                self.fails(NotAChange, value, call, value, 1)
                self.fails(NotAChange, value, call, value, None)

    def test_other_world(self):
        for levels in LEVELS:
            for other in (Round(n, (), 0) for n in LEVELS if n != levels):
                for call in TWO_ROUNDS:
                    self.fails(OtherWorld, other, call, Round(levels, (), 0), other)
                    self.fails(OtherWorld, other, call, other=other, one=Round(levels, ((0, 1),), MANY))

    def test_no_number(self):
        for value in NO_INTEGERS + [Round(2, (), 0)]:
            for call in (round_often, round_root):
                for one in (Round(2, (), 0), Round(3, ((0, 1),), 1)):
                    self.fails(InvalidNumber, value, call, one, value)
        for value in (0, -1, -MANY):
            self.fails(InvalidNumber, value, round_root, degree=value, one=Round(2, (), 0))

    def test_no_walk(self):
        wrong = [value for value in ODD if value != ""] + ["a", "<>+ ", "+\n", "><x", b"<>", ("<",), ["+"], "=", "-", ">" * 4001,
                                                           "+" * 4001, Round(2, (), 0)]
        for walk in wrong:
            for levels in LEVELS:
                self.fails(InvalidWalk, walk, round_walked, levels, walk)
                self.fails(InvalidWalk, walk, round_walked, walk=walk, levels=levels)
        for levels in NO_INTEGERS + [0, 1, 4, 6, MANY]:
            for walk in ("", "+>", None, "x"):
                self.fails(InvalidLevels, levels, round_walked, levels, walk)
        self.assertEqual(round_walked(2, ">" * 4000).end, 4000)
        self.assertEqual(round_walked(7, "+" * 4000).lamps, ((0, 4000 % 7),))


if __name__ == "__main__":
    unittest.main()
