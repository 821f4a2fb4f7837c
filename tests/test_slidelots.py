"""Lots of slides: texts, forms, cosets, plans, common parts, movers; errors and their order."""

import itertools
import random
import unittest

from helpers import (Case, ODD, check_defined, check_lot_class, check_lot_errors, check_told, deep_plan, flat,
                     random_plan, retold)
from pressworlds import slidelots
from pressworlds.errors import InvalidText
from pressworlds.pointlots import PointLot
from pressworlds.points import Point
from pressworlds.rows import Row
from pressworlds.slidelots import (SlideLot, needless_slides, same_slides, slide_cosets, slide_doing, slide_form,
                                   slide_makes, slide_meet, slide_mover, slide_plan, slides_within)
from pressworlds.slides import Slide, slide_then, slide_undone

LOTS, CHANGE = "lot other_lot", "lot change"
FUNCTIONS = {"slide_form": "lot", "slide_cosets": "lot", "slide_makes": CHANGE, "slide_plan": CHANGE,
             "slide_doing": "lot plan", "same_slides": LOTS, "slides_within": LOTS, "slide_meet": LOTS,
             "needless_slides": "lot", "slide_mover": LOTS}
CLASSES = {"SlideLot": ("changes", "__init__ read changes text __str__ __len__ __eq__")}
CALLS = ([slide_form, slide_cosets, needless_slides], [same_slides, slides_within, slide_meet, slide_mover],
         [slide_makes, slide_plan], slide_doing)
GREAT = 10 ** 30
MANY = 10 ** 39 + 3
STILL = Slide(1, 0)


def lot(*pairs):
    return SlideLot(tuple(Slide(side, shift) for side, shift in pairs))


def is_small(slide):
    return abs(slide.shift) <= GREAT


def random_lot(rng, most, turns=0.4):
    """Return a random lot whose shifts often have a divisor in common."""
    step = rng.choice([1, 1, 2, 3, 4])
    return lot(*((-1 if rng.random() < turns else 1, step * rng.randint(-most, most)) for _ in range(rng.randint(1, 4))))


def made_by(slides, most):
    """Return the slides that some make, with shifts of at most so much, found by going on from the still one.

    On the way shifts of four times as much are let be.
    """
    steps = list(slides) + [slide_undone(slide) for slide in slides]
    found, todo = {(1, 0)}, [STILL]
    while todo:
        one = todo.pop()
        for step in steps:
            after = slide_then(one, step)
            if (after.side, after.shift) not in found and abs(after.shift) <= 4 * most:
                found.add((after.side, after.shift))
                todo.append(after)
    return {pair for pair in found if abs(pair[1]) <= most}


def window(most):
    return [(side, shift) for side in (1, -1) for shift in range(-most, most + 1)]


def in_form(form, side, shift):
    step, turn = form
    if side == 1:
        return shift == 0 if step == 0 else shift % step == 0
    return bool(turn) and (shift == turn[0] if step == 0 else (shift - turn[0]) % step == 0)


class TestClass(Case):
    def test_interface(self):
        check_defined(self, slidelots, FUNCTIONS, CLASSES)

    def test_properties_and_equality(self):
        changes = [(Slide(1, 6), Slide(-1, 1)), (Slide(-1, 1), Slide(1, 6)), (STILL,), (STILL, STILL), (Slide(-1, 0),),
                   (Slide(1, GREAT), Slide(-1, -GREAT), Slide(1, -GREAT))]
        texts = ["ruler + 6\nruler - 1", "ruler - 1\nruler + 6", "ruler + 0", "ruler + 0\nruler + 0", "ruler - 0",
                 f"ruler + {GREAT}\nruler - {-GREAT}\nruler + {-GREAT}"]
        check_lot_class(self, SlideLot, changes, texts)

    def test_wrong_changes(self):
        wrong = [Slide(1, GREAT + 1), Slide(1, -GREAT - 1), Slide(-1, GREAT + 1), Slide(-1, -GREAT - 1), Row(1, "a"),
                 Point((1,)), lot((1, 1)), (1, 5), "ruler + 1"]
        check_told(self, SlideLot, Slide(-1, GREAT), wrong, [])

    def test_wrong_texts(self):
        wrong = ["", "\n", "ruler + 1\n", "\nruler + 1", "ruler + 1\n\nruler + 1", "ruler + -0", "ruler + 01",
                 "ruler + 1 ", "ruler + 1\r\nruler + 1", "ruler + 1 ruler + 1", "grid 1 1", "ruler + 1\ngrid 1 1",
                 "\n".join(["ruler + 1"] * 6), f"ruler + {GREAT + 1}", f"ruler - {-GREAT - 1}", "ruler * 1"]
        for text in wrong + ODD + [lot((1, 1))]:
            self.fails(InvalidText, text, SlideLot.read, text)
            self.fails(InvalidText, text, SlideLot.read, text=text)
        self.assertEqual(len(SlideLot.read("\n".join(["ruler - 1"] * 5))), 5)

    def test_does_not_change(self):
        made = lot((1, 6), (-1, 1))
        slide_form(made), slide_plan(made, Slide(1, 12)), slide_meet(made, made), slide_doing(made, ((0, 3),))
        self.assertEqual(made, lot((1, 6), (-1, 1)))

    def test_errors(self):
        others = [PointLot((Point((1,)),))]
        check_lot_errors(self, CALLS, lot((1, 2), (-1, 3)), Slide(1, 1), others, [Row(1, "a"), Point((1,)), (1, 1)])


class TestForm(Case):
    def check(self, made):
        """Check that a form is as it is told to be."""
        form = self.same_by_name(slide_form, made)
        self.assertEqual([part.__class__ for part in (form,) + form], [tuple, int, tuple])
        step, turn = form
        self.assertGreaterEqual(step, 0)
        self.assertEqual(len(turn), int(any(slide.side == -1 for slide in made.changes)))
        if turn and step:
            self.assertTrue(0 <= turn[0] < step)
        return form

    def test_against_a_plain_search(self):
        rng = random.Random(1)
        for _ in range(250):
            made = random_lot(rng, 8)
            form = self.check(made)
            found = made_by(made.changes, 40)
            for side, shift in window(40):
                inside = in_form(form, side, shift)
                self.assertEqual((side, shift) in found, inside, (str(made), side, shift))
                self.assertIs(self.same_by_name(slide_makes, made, Slide(side, shift)), inside)

    def test_does_not_depend_on_how_a_lot_is_told(self):
        rng = random.Random(2)
        for _ in range(200):
            made = random_lot(rng, rng.choice([4, 10 ** 20]))
            other = SlideLot(retold(rng, made.changes, slide_then, slide_undone, is_small))
            self.assertEqual(slide_form(made), slide_form(other))
            self.assertIs(self.same_by_name(same_slides, made, other), True)
            self.assertIs(self.same_by_name(slides_within, made, other), True)
            self.assertIs(slides_within(other, made), True)

    def test_same_and_within_against_a_plain_search(self):
        rng = random.Random(3)
        for _ in range(150):
            one, other = random_lot(rng, 3), random_lot(rng, 3)
            first, second = made_by(one.changes, 24), made_by(other.changes, 24)
            self.assertIs(self.same_by_name(same_slides, one, other), first == second)
            self.assertEqual(slide_form(one) == slide_form(other), first == second)
            self.assertIs(self.same_by_name(slides_within, one, other), first <= second)

    def test_edges(self):
        for pairs, form in [([(1, 0)], (0, ())), ([(1, 0)] * 5, (0, ())), ([(-1, 0)], (0, (0,))),
                            ([(-1, -7)], (0, (-7,))), ([(-1, -7), (-1, -7)], (0, (-7,))), ([(1, -1), (-1, 9)], (1, (0,))),
                            ([(-1, -7), (1, 5)], (5, (3,))), ([(-1, 3), (-1, 7)], (4, (3,))), ([(1, -6)], (6, ())),
                            ([(1, 6), (1, 4)], (2, ())), ([(1, GREAT), (1, GREAT - 1)], (1, ())),
                            ([(-1, -GREAT), (1, GREAT)], (GREAT, (0,))), ([(-1, GREAT), (-1, -GREAT)], (2 * GREAT, (GREAT,))),
                            ([(-1, -GREAT), (-1, GREAT), (1, 0), (1, 2), (-1, 1)], (1, (0,)))]:
            self.assertEqual(slide_form(lot(*pairs)), form)


class TestCosets(Case):
    def test_one_by_one(self):
        rng = random.Random(4)
        for _ in range(150):
            made = random_lot(rng, 6)
            many = self.same_by_name(slide_cosets, made)
            found = []
            for one in (Slide(side, shift) for side, shift in window(26)):
                if not any(slide_makes(made, slide_then(slide_undone(one), other)) for other in found):
                    found.append(one)
            if many is None:
                self.assertEqual(slide_form(made)[0], 0)
                self.assertGreater(len(found), 52)
            else:
                self.assertEqual(len(found), many)

    def test_edges(self):
        self.assertIsNone(slide_cosets(lot((1, 0))))
        self.assertIsNone(slide_cosets(lot((-1, GREAT))))
        self.assertEqual(slide_cosets(lot((1, 1))), 2)
        self.assertEqual(slide_cosets(lot((1, 1), (-1, 5))), 1)
        self.assertEqual(slide_cosets(lot((1, -GREAT))), 2 * GREAT)
        self.assertEqual(slide_cosets(lot((1, GREAT), (-1, 1))), GREAT)


class TestPlans(Case):
    def check(self, made, change):
        plan = self.same_by_name(slide_plan, made, change)
        self.assertEqual(plan is not None, slide_makes(made, change))
        if plan is not None:
            done = self.same_by_name(slide_doing, made, plan)
            self.assertEqual(done, change)
            self.assertIs(done.__class__, Slide)
        return plan

    def test_told_plans_press_by_press(self):
        rng = random.Random(5)
        for _ in range(120):
            made = random_lot(rng, 5)
            for side, shift in window(15):
                plan = self.check(made, Slide(side, shift))
                done = STILL
                for index, sign in flat(plan or ()):
                    told = made.changes[index]
                    done = slide_then(done, told if sign > 0 else slide_undone(told))
                if plan is not None:
                    self.assertEqual(done, Slide(side, shift))

    def test_random_plans_press_by_press(self):
        rng = random.Random(6)
        for _ in range(200):
            made = random_lot(rng, 5)
            plan = random_plan(rng, len(made), 4, [-2, -1, 1, 3])
            done = STILL
            for index, sign in flat(plan):
                told = made.changes[index]
                done = slide_then(done, told if sign > 0 else slide_undone(told))
            self.assertEqual(self.same_by_name(slide_doing, made, plan), done)
            self.assertIs(slide_makes(made, done), True)
            self.check(made, done)

    def test_great_numbers(self):
        rng = random.Random(7)
        for _ in range(100):
            made = random_lot(rng, GREAT // 4)
            plan = tuple((rng.randrange(len(made)), rng.choice([-1, 1]) * rng.randint(1, MANY)) for _ in range(6))
            done = slide_doing(made, plan)
            self.assertTrue(slide_makes(made, done))
            self.check(made, done)
            for change in (Slide(done.side, done.shift + 1), Slide(-done.side, done.shift), Slide(1, MANY)):
                self.assertIs(slide_makes(made, change), in_form(slide_form(made), change.side, change.shift))
                self.check(made, change)

    def test_edges(self):
        self.assertIsNone(slide_plan(lot((1, 1)), Slide(-1, 0)))
        self.assertIsNone(slide_plan(lot((-1, 1)), Slide(-1, 0)))
        self.assertIsNone(slide_plan(lot((1, 2), (-1, 1)), Slide(1, 1)))
        for made in (lot((1, 0)), lot((-1, 5)), lot((1, 6), (-1, 1))):
            self.assertEqual(slide_doing(made, slide_plan(made, STILL)), STILL)
            self.assertEqual(slide_doing(made, ()), STILL)
            self.assertEqual(slide_doing(made, (((), MANY),)), STILL)
            self.check(made, made.changes[0])

    def test_plans_five_deep_and_times_of_40_digits(self):
        made = lot((1, 2), (-1, 1))
        self.assertEqual(slide_doing(made, deep_plan(0, 5, MANY)), Slide(1, 2 * MANY ** 5))
        self.assertEqual(slide_doing(made, deep_plan(1, 5, MANY)), Slide(-1, 1))
        self.assertEqual(slide_doing(made, deep_plan(1, 5, -MANY - 1)), STILL)
        self.assertEqual(slide_doing(made, deep_plan(((0, -MANY), (1, 1)), 4)), Slide(-1, 1 - 2 * MANY))


class TestMeet(Case):
    def test_against_a_plain_search(self):
        rng = random.Random(8)
        for _ in range(300):
            one, other = random_lot(rng, 4), random_lot(rng, 4)
            form = self.same_by_name(slide_meet, one, other)
            self.assertEqual(form, slide_meet(other, one))
            self.assertEqual(slide_meet(one, one), slide_form(one))
            for side, shift in window(60):
                both = in_form(slide_form(one), side, shift) and in_form(slide_form(other), side, shift)
                self.assertEqual(in_form(form, side, shift), both)
            told = [Slide(1, form[0])] + [Slide(-1, shift) for shift in form[1]]
            self.assertEqual(slide_form(SlideLot(tuple(told))), form)

    def test_edges(self):
        self.assertEqual(slide_meet(lot((1, 6), (-1, 1)), lot((-1, 3), (-1, 7))), (12, (7,)))
        self.assertEqual(slide_meet(lot((-1, 1)), lot((-1, 1))), (0, (1,)))
        self.assertEqual(slide_meet(lot((-1, 1)), lot((-1, 2))), (0, ()))
        self.assertEqual(slide_meet(lot((-1, 7)), lot((1, 3), (-1, 1))), (0, (7,)))
        self.assertEqual(slide_meet(lot((-1, 8)), lot((1, 3), (-1, 1))), (0, ()))
        self.assertEqual(slide_meet(lot((1, 2), (-1, 1)), lot((1, 2), (-1, 0))), (2, ()))
        self.assertEqual(slide_meet(lot((1, GREAT), (-1, 1)), lot((1, GREAT - 1), (-1, 1))), (GREAT * (GREAT - 1), (1,)))
        self.assertEqual(slide_meet(lot((1, GREAT), (-1, 0)), lot((1, GREAT - 1), (-1, 1)))[1][0] % GREAT, 0)


class TestNeedless(Case):
    def test_against_the_others(self):
        rng = random.Random(9)
        for _ in range(200):
            made = random_lot(rng, 3)
            if len(made) > 1:
                plain = [at for at in range(len(made)) if same_slides(made, SlideLot(
                    made.changes[:at] + made.changes[at + 1:]))]
                self.assertEqual(self.same_by_name(needless_slides, made), tuple(plain))

    def test_edges(self):
        for pairs, needless in [([(1, 0)], (0,)), ([(-1, 0)], ()), ([(1, 1)], ()), ([(1, 0), (1, 0)], (0, 1)),
                                ([(1, 0), (-1, 1)], (0,)), ([(-1, 1), (-1, 1)], (0, 1)), ([(1, 2), (1, 3)], ()),
                                ([(1, 2), (1, 3), (1, 1)], (0, 1, 2)), ([(1, 2), (-1, 0), (-1, 2)], (0, 1, 2)),
                                ([(1, GREAT), (1, -GREAT)], (0, 1))]:
            self.assertEqual(needless_slides(lot(*pairs)), needless)


class TestMover(Case):
    def moved(self, made, mover):
        """Return the form of what a lot makes, with a slide ahead and it undone behind; it may be no small lot."""
        moved = [slide_then(slide_then(mover, told), slide_undone(mover)) for told in made.changes]
        return slide_form(SlideLot(tuple(moved)))

    def test_against_a_plain_search(self):
        rng = random.Random(10)
        found = 0
        for _ in range(250):
            one, other = random_lot(rng, 3), random_lot(rng, 3)
            if rng.random() < 0.3:
                c = Slide(rng.choice([1, -1]), rng.randint(-5, 5))
                other = SlideLot(tuple(slide_then(slide_then(c, told), slide_undone(c)) for told in one.changes))
            mover = self.same_by_name(slide_mover, one, other)
            plain = any(self.moved(one, Slide(side, shift)) == slide_form(other) for side, shift in window(26))
            self.assertEqual(mover is not None, plain)
            if mover is not None:
                found += 1
                self.assertIs(mover.__class__, Slide)
                self.assertEqual(self.moved(one, mover), slide_form(other))
        self.assertGreater(found, 60)

    def test_edges(self):
        pairs = [([(1, 3)], [(1, -3)], True), ([(1, 3)], [(1, 6)], False), ([(1, 3)], [(1, 3), (-1, 0)], False),
                 ([(1, 0)], [(1, 0), (1, 0)], True), ([(-1, 0)], [(-1, 4)], True), ([(-1, 0)], [(-1, 5)], False),
                 ([(1, 3), (-1, 0)], [(1, 3), (-1, 1)], True), ([(1, 4), (-1, 0)], [(1, 4), (-1, 1)], False),
                 ([(1, 4), (-1, 1)], [(1, 4), (-1, 3)], True), ([(1, 1), (-1, 0)], [(-1, 7), (-1, 8)], True)]
        for one, other, movable in pairs:
            for first, second in itertools.permutations([lot(*one), lot(*other)]):
                mover = slide_mover(first, second)
                self.assertEqual(mover is not None, movable)
                if movable:
                    self.assertEqual(self.moved(first, mover), slide_form(second))
        self.assertEqual(self.moved(lot((-1, GREAT)), slide_mover(lot((-1, GREAT)), lot((-1, -GREAT)))), (0, (-GREAT,)))


if __name__ == "__main__":
    unittest.main()
