"""Lots of rounds: texts, forms, cosets, what is made; errors and their order. Plans are tested in test_roundplans."""

import itertools
import math
import random
import unittest

from helpers import Case, ODD, check_defined, check_lot_class, check_lot_errors, check_told, retold
from pressworlds import roundlots
from pressworlds.errors import InvalidText, OtherWorld, TooFar
from pressworlds.points import Point
from pressworlds.roundlots import (RoundLot, needless_rounds, round_cosets, round_doing, round_form, round_makes,
                                   round_plan, rounds_within, same_rounds)
from pressworlds.rounds import Round, round_then, round_undone
from pressworlds.slidelots import SlideLot
from pressworlds.slides import Slide

LOTS, CHANGE = "lot other_lot", "lot change"
FUNCTIONS = {"round_form": "lot", "round_cosets": "lot", "round_makes": CHANGE, "round_plan": CHANGE,
             "round_doing": "lot plan", "same_rounds": LOTS, "rounds_within": LOTS, "needless_rounds": "lot"}
CLASSES = {"RoundLot": ("changes", "__init__ read changes text __str__ __len__ __eq__")}
CALLS = ([round_form, round_cosets, needless_rounds], [same_rounds, rounds_within], [round_makes, round_plan],
         round_doing)
LEVELS = (2, 3, 5, 7)
MANY = 10 ** 39 + 3


def made_of(levels, picture, end):
    return Round(levels, tuple(sorted((place, level % levels) for place, level in picture.items() if level % levels)), end)


def lot(levels, *pairs):
    """Return a lot of rounds, each told by a dict of lamps and an end."""
    return RoundLot(tuple(made_of(levels, picture, end) for picture, end in pairs))


def random_round(rng, levels, most, end, share=0.4):
    picture = {place: rng.randrange(levels) for place in range(-most, most + 1) if rng.random() < share}
    return made_of(levels, picture, end)


def random_lot(rng, levels, most=3, ends=3, step=None):
    """Return a random lot, often without ends, or with a divisor of all ends."""
    step = rng.choice([0, 1, 1, 2, 3]) if step is None else step
    share = rng.choice([0.1, 0.3, 0.7])
    return RoundLot(tuple(random_round(rng, levels, most, step * rng.randint(-(ends // max(1, step)), ends // max(1, step)),
                                       share) for _ in range(rng.randint(1, 5))))


def is_small(one):
    return abs(one.end) <= 8 and all(abs(place) <= 24 for place, _ in one.lamps)


def is_near(one):
    return abs(one.end) <= 40 and all(abs(place) <= 40 for place, _ in one.lamps)


def added(levels, one, other, times=1, by=0):
    """Return a picture, and another one so many times and moved on top of it, as dicts."""
    total = dict(one)
    for place, level in other.items():
        total[place + by] = (total.get(place + by, 0) + times * level) % levels
    return {place: level for place, level in total.items() if level}


def echelon(levels, pictures):
    """Return pictures by their first places, each with the level 1 there, from which all sums of these come."""
    found = {}
    for picture in pictures:
        left = lessened(levels, picture, found)
        if left:
            first = min(left)
            inverse = pow(left[first], -1, levels)
            found[first] = {place: level * inverse % levels for place, level in left.items()}
    return found


def lessened(levels, picture, found):
    left, at = dict(picture), min(picture, default=0)
    while left and at <= max(left):
        if at in left and at in found:
            left = added(levels, left, found[at], -left[at])
        at += 1
    return left


class Span:
    """All that the form of a lot of rounds tells, led plainly by sums of its pictures within a window."""

    def __init__(self, levels, form, margin=40):
        self.levels, (self.step, pictures, trip) = levels, form
        self.trip = dict(trip)
        pictures = [dict(picture) for picture in pictures]
        moves = [0]
        if self.step:
            moves = [by for by in range(-3 * margin, 3 * margin) if by % self.step == 0]
        self.found = echelon(levels, [added(levels, {}, picture, 1, by) for by in moves for picture in pictures
                                      if abs(min(picture) + by) < margin and abs(max(picture) + by) < margin])

    def has(self, picture, end):
        if end != 0 and (self.step == 0 or end % self.step):
            return False
        left = dict(picture)
        times = end // self.step if self.step else 0
        for at in range(abs(times)):
            if times > 0:
                left = added(self.levels, left, self.trip, -1, at * self.step)
            else:
                left = added(self.levels, left, self.trip, 1, -(at + 1) * self.step)
        return not lessened(self.levels, left, self.found)

    def has_round(self, one):
        return self.has(dict(one.lamps), one.end)


class TestClass(Case):
    def test_interface(self):
        check_defined(self, roundlots, FUNCTIONS, CLASSES)

    def test_properties_and_equality(self):
        lit, step = Round(2, ((0, 1),), 0), Round(2, (), 1)
        changes = [(step, lit), (lit, step), (lit,), (Round(3, (), 0),), (Round(7, ((-24, 6), (24, 1)), -8),) * 5]
        texts = ["lamps 2 end 1 dark\nlamps 2 end 0 at 0:1", "lamps 2 end 0 at 0:1\nlamps 2 end 1 dark",
                 "lamps 2 end 0 at 0:1", "lamps 3 end 0 dark", "\n".join(["lamps 7 end -8 at -24:6 24:1"] * 5)]
        check_lot_class(self, RoundLot, changes, texts)

    def test_wrong_changes(self):
        wrong = [Round(2, ((25, 1),), 0), Round(2, ((-25, 1),), 0), Round(2, ((0, 1), (25, 1)), 0), Round(2, (), 9),
                 Round(2, (), -9), Round(2, ((MANY, 1),), 0), Round(2, (), MANY), Slide(1, 1), Point((1,)),
                 lot(2, ({0: 1}, 0)), (2, (), 0), "lamps 2 end 0 dark"]
        others = [Round(levels, (), 0) for levels in (3, 5, 7)]
        for good in (Round(2, ((-24, 1), (24, 1)), 8), Round(2, (), -8)):
            check_told(self, RoundLot, good, wrong, others)
        for levels in LEVELS:
            self.assertEqual(len(lot(levels, ({place: 1 for place in range(-24, 25)}, -8), ({}, 8))), 2)

    def test_wrong_texts(self):
        good = "lamps 2 end 1 at 0:1"
        wrong = ["", "\n", good + "\n", "\n" + good, good + "\n\n" + good, good + " ", good + " 0:1", good + " " + good,
                 good + "\r\n" + good, "ruler + 1", good + "\nlamps 3 end 0 dark", good + "\nruler + 1",
                 "\n".join([good] * 6), "lamps 2 end 9 dark", "lamps 2 end 0 at 25:1", "lamps 2 end 0 at -25:1"]
        for text in wrong + ODD + [lot(2, ({}, 0))]:
            self.fails(InvalidText, text, RoundLot.read, text)
            self.fails(InvalidText, text, RoundLot.read, text=text)
        self.assertEqual(len(RoundLot.read("\n".join([good] * 5))), 5)

    def test_does_not_change(self):
        made = lot(2, ({0: 1}, 1), ({}, 3))
        text = str(made)
        round_form(made), round_plan(made, made.changes[0]), same_rounds(made, made), round_doing(made, ((0, 3),))
        self.assertEqual(str(made), text)

    def test_errors(self):
        check_lot_errors(self, CALLS, lot(2, ({0: 1}, 1), ({}, 3)), Round(2, ((3, 1),), 0),
                         [SlideLot((Slide(1, 1),))], [Slide(1, 1), Point((1,)), (2, (), 0)])

    def test_other_world(self):
        good = lot(2, ({0: 1}, 1), ({}, 3))
        for levels in (3, 5, 7):
            for other in (Round(levels, (), 0), Round(levels, ((MANY, 1),), 41)):
                for call in (round_makes, round_plan):
                    self.fails(OtherWorld, other, call, good, other)
                    self.fails(OtherWorld, other, call, change=other, lot=good)
            other = lot(levels, ({}, 0))
            for call in (same_rounds, rounds_within):
                self.fails(OtherWorld, other, call, good, other)
                self.fails(OtherWorld, other, call, other_lot=other, lot=good)

    def test_too_far(self):
        for levels in LEVELS:
            for made in (lot(levels, ({0: 1}, 0), ({}, 1)), lot(levels, ({}, 0))):
                for change in (Round(levels, ((41, 1),), 0), Round(levels, ((-41, 1),), 0), Round(levels, (), 41),
                               Round(levels, (), -41), Round(levels, ((0, 1), (MANY, 1)), 0), Round(levels, (), -MANY)):
                    for call in (round_makes, round_plan):
                        self.fails(TooFar, change, call, made, change)
                        self.fails(TooFar, change, call, change=change, lot=made)
                for change in (Round(levels, ((-40, 1), (40, levels - 1)), 40), Round(levels, ((40, 1),), -40)):
                    self.assertIs(self.same_by_name(round_makes, made, change), len(made) == 2)
                    plan = self.same_by_name(round_plan, made, change)
                    self.assertEqual(plan is not None, len(made) == 2)
                    if plan is not None:
                        self.assertEqual(round_doing(made, plan), change)


class TestForm(Case):
    def check(self, made):
        """Check that a form is as it is told to be."""
        levels = made.changes[0].levels
        form = self.same_by_name(round_form, made)
        step, pictures, trip = form
        self.assertEqual([part.__class__ for part in (form, step, pictures, trip)], [tuple, int, tuple, tuple])
        self.assertEqual(step, math.gcd(*(one.end for one in made.changes)))
        for picture in pictures + (trip,):
            self.assertEqual(Round(levels, picture, 0).lamps, picture)
        if step == 0:
            self.assertEqual(trip, ())
            firsts = [picture[0][0] for picture in pictures]
            self.assertEqual(firsts, sorted(set(firsts)))
            for at, picture in enumerate(pictures):
                self.assertEqual([dict(other).get(firsts[at], 0) for other in pictures],
                                 [int(other == picture) for other in pictures])
        else:
            self.check_heads(step, pictures, trip)
        return form

    def check_heads(self, step, pictures, trip):
        """Check the head parts of pictures."""
        rests = [min(place % step for place, _ in picture) for picture in pictures]
        self.assertEqual(rests, sorted(set(rests)))
        for rest, picture in zip(rests, pictures):
            head = [(place, level) for place, level in picture if place % step == rest]
            self.assertEqual((head[0][0], head[-1][1]), (rest, 1))
            for other in [each for each in pictures if each != picture] + [trip]:
                for place, _ in other:
                    self.assertTrue(place % step != rest or rest <= place < head[-1][0])

    def test_what_a_form_tells_is_just_what_is_made(self):
        # It has what the document says, the told rounds and what comes of them are in it, and what is in it is made.
        rng = random.Random(1)
        inside = 0
        for _ in range(160):
            levels = rng.choice(LEVELS)
            made = random_lot(rng, levels)
            span = Span(levels, self.check(made))
            some = list(made.changes)
            for _ in range(5):
                first, second = rng.choice(some), rng.choice(some)
                some.append(round_then(first, rng.choice([second, round_undone(second)])))
            self.assertTrue(all(span.has_round(one) for one in some if is_near(one)))
            for one in some + [random_round(rng, levels, 5, rng.randint(-6, 6), 0.2) for _ in range(5)]:
                if is_near(one):
                    made_so = self.same_by_name(round_makes, made, one)
                    self.assertIs(made_so, span.has_round(one), (str(made), str(one)))
                    inside += made_so
            for picture, by in itertools.product(round_form(made)[1], (0, span.step, -2 * span.step)):
                one = made_of(levels, {place + by: level for place, level in picture}, 0)
                if is_near(one):
                    self.assertIs(round_makes(made, one), True)
                    self.assertEqual(round_doing(made, round_plan(made, one)), one)
            one = Round(levels, round_form(made)[2], span.step)
            self.assertEqual(round_doing(made, round_plan(made, one)), one)
        self.assertGreater(inside, 600)

    def test_against_a_plain_search(self):
        # All rounds that come of the told ones with lamps within a window on the way, and no others;
        # for three levels the window is too small for all, so there those beyond have to have a plan.
        rng = random.Random(2)
        for levels, window, lots in ((2, range(-5, 7), 12), (3, range(-3, 4), 8)):
            for _ in range(lots):
                made = RoundLot(tuple(made_of(levels, {0: rng.randrange(levels), 1: rng.randrange(levels)},
                                              rng.choice([-2, -1, 0, 1, 2])) for _ in range(2)))
                steps = list(made.changes) + [round_undone(one) for one in made.changes]
                found, todo = {((), 0)}, [Round(levels, (), 0)]
                while todo:
                    one = todo.pop()
                    for after in (round_then(one, step) for step in steps):
                        close = abs(after.end) <= 3 and all(place in window for place, _ in after.lamps)
                        if close and (after.lamps, after.end) not in found:
                            found.add((after.lamps, after.end))
                            todo.append(after)
                for choice in itertools.product(range(levels), repeat=3):
                    for end in (-2, -1, 0, 1, 2):
                        one = made_of(levels, dict(zip((-1, 0, 1), choice)), end)
                        made_so = round_makes(made, one)
                        if levels == 3 and made_so:
                            self.assertEqual(round_doing(made, round_plan(made, one)), one)
                        else:
                            self.assertIs(made_so, (one.lamps, end) in found, (str(made), str(one)))

    def test_does_not_depend_on_how_a_lot_is_told(self):
        rng = random.Random(3)
        for _ in range(250):
            made = random_lot(rng, rng.choice(LEVELS), rng.choice([2, 12]), 8)
            other = RoundLot(retold(rng, made.changes, round_then, round_undone, is_small))
            self.assertEqual(self.check(made), self.check(other))
            self.assertIs(self.same_by_name(same_rounds, made, other), True)
            self.assertIs(self.same_by_name(rounds_within, made, other), True)
            self.assertIs(rounds_within(other, made), True)

    def test_same_and_within_by_told_rounds(self):
        rng = random.Random(4)
        told = []
        for _ in range(400):
            levels = rng.choice((2, 3))
            one, other = (random_lot(rng, levels, 1, 2) for _ in range(2))
            first = all(round_makes(other, change) for change in one.changes)
            second = all(round_makes(one, change) for change in other.changes)
            self.assertIs(self.same_by_name(rounds_within, one, other), first)
            self.assertIs(self.same_by_name(same_rounds, one, other), first and second)
            self.assertEqual(round_form(one) == round_form(other), first and second)
            told.append((first, second))
        self.assertEqual(set(told), set(itertools.product((True, False), repeat=2)))

    def test_great_lots(self):
        rng = random.Random(5)
        for _ in range(60):
            levels, step = rng.choice(LEVELS), rng.randint(1, 8)
            made = random_lot(rng, levels, 24, 8, step)
            self.check(made)

    def test_edges_without_ends(self):
        for levels, pictures, told in [
                (2, [{}], ()), (7, [{}] * 5, ()), (3, [{0: 2}], (((0, 1),),)),
                (3, [{0: 1, 1: 1}, {1: 2}], (((0, 1),), ((1, 1),))),
                (5, [{-24: 3, 24: 1}], (((-24, 1), (24, 2)),)),
                (7, [{1: 2, 2: 1}, {1: 1, 2: 4}], (((1, 1), (2, 4)),)),
                (2, [{3: 1, 4: 1}, {4: 1, 5: 1}, {3: 1, 5: 1}], (((3, 1), (5, 1)), ((4, 1), (5, 1)))),
                (5, [{0: 1, 1: 2, 2: 3}, {0: 2, 1: 4, 2: 1}], (((0, 1), (1, 2), (2, 3)),)),
                (5, [{0: 1, 1: 2, 2: 3}, {0: 2, 1: 4, 2: 0}], (((0, 1), (1, 2)), ((2, 1),)))]:
            self.assertEqual(round_form(lot(levels, *((picture, 0) for picture in pictures))), (0, told, ()))

    def test_edges_with_ends(self):
        full = (((0, 1),),)
        for levels, told, form in [
                (2, [({}, 1)], (1, (), ())), (2, [({}, -1)], (1, (), ())), (2, [({}, 6), ({}, -4)], (2, (), ())),
                (2, [({0: 1}, 1)], (1, (), ((0, 1),))), (3, [({0: 1}, -1)], (1, (), ((1, 2),))),
                (3, [({5: 1}, 8)], (8, (), ((5, 1),))), (2, [({}, 1), ({0: 1}, 0)], (1, full, ())),
                (5, [({}, 1), ({-9: 3}, 0)], (1, full, ())), (5, [({}, 8), ({-9: 3}, 0)], (8, (((7, 1),),), ())),
                (3, [({}, 1), ({0: 1, 1: 2}, 0)], (1, (((0, 2), (1, 1)),), ())),
                (7, [({}, 1), ({0: 1, 1: 2}, 0)], (1, (((0, 4), (1, 1)),), ())),
                (7, [({6: 3}, 1), ({0: 1, 1: 2}, 0)], (1, (((0, 4), (1, 1)),), ((0, 3),))),
                (2, [({}, 2), ({0: 1, 1: 1}, 0)], (2, (((0, 1), (1, 1)),), ())),
                (2, [({}, 2), ({0: 1, 3: 1}, 0), ({1: 1, 5: 1}, 0)], (2, (((0, 1), (3, 1)), ((1, 1), (5, 1))), ())),
                (2, [({}, 2), ({0: 1, 2: 1}, 0), ({0: 1, 1: 1}, 0)], (2, (((0, 1), (1, 1)), ((1, 1), (3, 1))), ())),
                (3, [({}, 4), ({-4: 1, 24: 1}, 0)], (4, (((0, 1), (28, 1)),), ())),
                (2, [({0: 1}, 1), ({}, 3)], (1, (((0, 1), (1, 1), (2, 1)),), ((0, 1),))),
                (2, [({}, 2), ({}, 3)], (1, (), ())), (2, [({0: 1}, 2), ({0: 1}, 3)], (1, full, ()))]:
            self.assertEqual(round_form(lot(levels, *told)), form, told)


class TestCosets(Case):
    def test_one_by_one(self):
        rng = random.Random(6)
        counts = []
        while len(counts) < 40:
            levels = rng.choice(LEVELS)
            made = random_lot(rng, levels, 3, 3, rng.randint(1, 3))
            step, pictures, _ = round_form(made)
            many = self.same_by_name(round_cosets, made)
            if step == 0 or len(pictures) < step:
                self.assertIsNone(many)
            elif many <= 100:
                counts.append(many)
                found = self.representatives(levels, step, pictures)
                self.assertEqual(len(found), many)
                for one, other in itertools.combinations(found[:12], 2):
                    self.assertFalse(round_makes(made, round_then(round_undone(one), other)))
                for _ in range(4):
                    one = random_round(rng, levels, 4, rng.randint(-4, 4))
                    places = [round_makes(made, round_then(round_undone(one), other)) for other in found]
                    self.assertEqual(places.count(True), 1)
        self.assertGreater(len(set(counts)), 6)

    def representatives(self, levels, step, pictures):
        """Return one round of each coset: ends below the step, and lamps where they cannot be taken away."""
        places = []
        for rest, picture in enumerate(pictures):
            last = max(place for place, _ in picture if place % step == rest)
            places += list(range(rest, last, step))
        return [made_of(levels, {place + end: level for place, level in zip(places, choice)}, end)
                for choice in itertools.product(range(levels), repeat=len(places)) for end in range(step)]

    def test_edges(self):
        for made in (lot(2, ({}, 0)), lot(2, ({0: 1}, 0)), lot(2, ({}, 1)), lot(2, ({0: 1}, 1)),
                     lot(3, ({}, 2), ({0: 1}, 0)), lot(3, ({}, 2), ({0: 1, 1: 1}, 0)),
                     lot(2, ({}, 8), *(({place: 1}, 0) for place in range(4)))):
            self.assertIsNone(round_cosets(made))
        for made, many in [(lot(2, ({}, 1), ({0: 1}, 0)), 1), (lot(7, ({}, -1), ({0: 3}, 0)), 1),
                           (lot(2, ({}, 4), *(({place: 1}, 0) for place in range(4))), 4),
                           (lot(2, ({0: 1}, 1), ({}, 3)), 4), (lot(7, ({}, 1), ({-24: 1, 24: 1}, 0)), 7 ** 48),
                           (lot(3, ({}, 2), ({0: 1, 4: 1}, 0), ({1: 1, 7: 1}, 0)), 2 * 3 ** 5),
                           (lot(5, ({}, 3), ({0: 1, 1: 1}, 0), ({1: 1, 2: 1}, 0), ({2: 1, 23: 1}, 0)), 3 * 5 ** 7)]:
            self.assertEqual(round_cosets(made), many)


class TestNeedless(Case):
    def test_against_the_others(self):
        rng = random.Random(7)
        told = set()
        for _ in range(250):
            made = random_lot(rng, rng.choice(LEVELS), 1, 2)
            if len(made) > 1:
                found = self.same_by_name(needless_rounds, made)
                others = [RoundLot(made.changes[:at] + made.changes[at + 1:]) for at in range(len(made))]
                self.assertEqual(found, tuple(at for at in range(len(made)) if same_rounds(made, others[at])))
                told.add(len(found))
        self.assertGreater(len(told), 3)

    def test_edges(self):
        for levels, told, needless in [(2, [({}, 0)], (0,)), (2, [({0: 1}, 0)], ()), (2, [({}, 1)], ()),
                                       (2, [({}, 0), ({}, 0)], (0, 1)), (2, [({}, 1), ({}, 0)], (1,)),
                                       (2, [({0: 1}, 1), ({0: 1}, 0), ({0: 1, 1: 1}, 2)], (2,)),
                                       (3, [({0: 1}, 0), ({0: 2}, 0)], (0, 1)), (3, [({}, 2), ({}, 3)], ()),
                                       (3, [({}, 2), ({}, 3), ({}, 1)], (0, 1, 2)),
                                       (5, [({}, 1), ({0: 1}, 0), ({7: 3}, 0)], (1, 2)),
                                       (5, [({}, 0), ({0: 1}, 0), ({7: 3}, 0)], (0,))]:
            self.assertEqual(needless_rounds(lot(levels, *told)), needless)


if __name__ == "__main__":
    unittest.main()
