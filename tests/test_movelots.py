"""Lots of moves: texts, forms, cosets, plans, common parts; errors and their order."""

import itertools
import math
import random
import unittest

from helpers import (Case, ODD, check_defined, check_lot_class, check_lot_errors, check_told, deep_plan, flat,
                     press_count, random_plan, retold)
from pressworlds import movelots
from pressworlds.errors import InvalidText
from pressworlds.movelots import (MoveLot, move_cosets, move_doing, move_form, move_makes, move_meet, move_plan,
                                  moves_within, needless_moves, same_moves)
from pressworlds.moves import Move, move_often, move_then, move_undone
from pressworlds.points import Point
from pressworlds.slidelots import SlideLot
from pressworlds.slides import Slide

LOTS, CHANGE = "lot other_lot", "lot change"
FUNCTIONS = {"move_form": "lot", "move_cosets": "lot", "move_makes": CHANGE, "move_plan": CHANGE,
             "move_doing": "lot plan", "same_moves": LOTS, "moves_within": LOTS, "move_meet": LOTS,
             "needless_moves": "lot"}
CLASSES = {"MoveLot": ("changes", "__init__ read changes text __str__ __len__ __eq__")}
CALLS = ([move_form, move_cosets, needless_moves], [same_moves, moves_within, move_meet], [move_makes, move_plan],
         move_doing)
GREAT = 10 ** 30
MANY = 10 ** 39 + 3


def lot(*triples):
    return MoveLot(tuple(Move(*numbers) for numbers in triples))


def triple(move):
    return move.east, move.north, move.area


def plain_then(one, other):
    return one[0] + other[0], one[1] + other[1], one[2] + other[2] + one[0] * other[1]


def plain_undone(one):
    return -one[0], -one[1], one[0] * one[1] - one[2]


def plain_often(one, times):
    east, north, area = one
    return times * east, times * north, times * area + times * (times - 1) // 2 * east * north


def in_form(form, one):
    """Return whether a triple is so many times the east, then the north, then areas by z, led plainly."""
    east, north, z = form
    times = 0
    if one[0]:
        if not east or one[0] % east[0]:
            return False
        times = one[0] // east[0]
    left = plain_then(plain_undone(plain_often(east or (0, 0, 0), times)), one)
    if left[1]:
        if not north or left[1] % north[1]:
            return False
        left = plain_then(plain_undone(plain_often(north, left[1] // north[1])), left)
    return left[:2] == (0, 0) and (left[2] % z == 0 if z else left[2] == 0)


def is_small(move):
    return all(abs(number) <= GREAT for number in triple(move))


def random_lot(rng, most, many=5):
    """Return a random lot in which numbers are often 0, or have a divisor in common."""
    shares = [rng.choice([0, 1, 1, 1, 2, 3]) for _ in range(3)]
    return lot(*(tuple(share * rng.randint(-most, most) for share in shares) for _ in range(rng.randint(1, many))))


def box(wide):
    return itertools.product(range(-wide, wide + 1), repeat=3)


class TestClass(Case):
    def test_interface(self):
        check_defined(self, movelots, FUNCTIONS, CLASSES)

    def test_properties_and_equality(self):
        right, up = Move(1, 0, 0), Move(0, 1, 0)
        changes = [(right, up), (up, right), (right,), (Move(0, 0, 0),), (Move(GREAT, -GREAT, GREAT),) * 5]
        texts = ["areas 1 0 0\nareas 0 1 0", "areas 0 1 0\nareas 1 0 0", "areas 1 0 0", "areas 0 0 0",
                 "\n".join([f"areas {GREAT} {-GREAT} {GREAT}"] * 5)]
        check_lot_class(self, MoveLot, changes, texts)

    def test_wrong_changes(self):
        wrong = [Move(*(far if at == spot else 1 for at in range(3))) for far in (GREAT + 1, -GREAT - 1) for spot in range(3)]
        wrong += [Slide(1, 1), Point((1, 2, 3)), lot((1, 1, 1)), (1, 2, 3), "areas 1 1 1"]
        check_told(self, MoveLot, Move(GREAT, -GREAT, GREAT), wrong, [])

    def test_wrong_texts(self):
        good = "areas 1 2 3"
        wrong = ["", "\n", good + "\n", "\n" + good, good + "\n\n" + good, good + " ", good + " " + good,
                 good + "\r\n" + good, "ruler + 1", good + "\nruler + 1", "\n".join([good] * 6), "areas 1 1",
                 f"areas 1 1 {GREAT + 1}", f"areas {-GREAT - 1} 1 1", "areas 1 01 1"]
        for text in wrong + ODD + [lot((1, 1, 1))]:
            self.fails(InvalidText, text, MoveLot.read, text)
            self.fails(InvalidText, text, MoveLot.read, text=text)
        self.assertEqual(len(MoveLot.read("\n".join([good] * 5))), 5)

    def test_does_not_change(self):
        made = lot((1, 0, 0), (0, 1, 0))
        move_form(made), move_plan(made, Move(3, 2, 1)), move_meet(made, made), move_doing(made, ((0, 3),))
        self.assertEqual(made, lot((1, 0, 0), (0, 1, 0)))

    def test_errors(self):
        check_lot_errors(self, CALLS, lot((1, 0, 0), (0, 1, 0)), Move(1, 1, 1), [SlideLot((Slide(1, 1),))],
                         [Slide(1, 1), Point((1, 2, 3)), (1, 2, 3)])


class TestForm(Case):
    def check(self, made):
        """Check that a form is as it is told to be, and that the told moves are of those that it tells."""
        form = self.same_by_name(move_form, made)
        self.check_shape(form)
        told = [triple(move) for move in made.changes]
        self.assertEqual(form[0][0] if form[0] else 0, math.gcd(*(east for east, _, _ in told)))
        self.assertTrue(all(in_form(form, one) for one in told))
        return form

    def check_shape(self, form):
        east, north, z = form
        self.assertEqual([part.__class__ for part in (form, east, north, z)], [tuple, tuple, tuple, int])
        self.assertGreaterEqual(z, 0)
        self.assertIn(len(east), (0, 3))
        self.assertIn(len(north), (0, 3))
        if north:
            self.assertTrue(north[0] == 0 < north[1] and (z == 0 or 0 <= north[2] < z))
        if east:
            self.assertTrue(east[0] > 0 and (z == 0 or 0 <= east[2] < z))
        if east and north:
            self.assertTrue(0 <= east[1] < north[1] and z > 0 and east[0] * north[1] % z == 0)

    def check_made(self, made, change):
        inside = in_form(move_form(made), triple(change))
        self.assertIs(self.same_by_name(move_makes, made, change), inside, (str(made), str(change)))
        plan = self.same_by_name(move_plan, made, change)
        self.assertEqual(plan is not None, inside)
        if inside:
            self.assertEqual(self.same_by_name(move_doing, made, plan), change)
        return inside

    def test_what_a_form_tells_is_just_what_is_made(self):
        # The told moves are in it, it is closed, and for what is in it a plan does it.
        rng = random.Random(1)
        inside = 0
        for _ in range(200):
            made = random_lot(rng, rng.choice([1, 3, 9]))
            form = self.check(made)
            some = [triple(move) for move in made.changes]
            for _ in range(8):
                first, second = rng.choice(some), rng.choice(some)
                some.append(plain_then(first, rng.choice([second, plain_undone(second)])))
            for one in some + [tuple(rng.randint(-6, 6) for _ in range(3)) for _ in range(8)]:
                inside += self.check_made(made, Move(*one))
            self.assertTrue(all(in_form(form, one) for one in some))
            for one in (form[0] or (0, 0, 0), form[1] or (0, 0, 0), (0, 0, form[2]), (0, 0, -7 * form[2])):
                self.assertTrue(self.check_made(made, Move(*one)))
        self.assertGreater(inside, 2000)

    def test_against_a_plain_search(self):
        # All moves that come of the told ones with small numbers on the way, and no others.
        rng = random.Random(2)
        for _ in range(40):
            made = random_lot(rng, 2, 3)
            steps = [triple(move) for move in made.changes]
            steps += [plain_undone(one) for one in steps]
            found, todo = {(0, 0, 0)}, [(0, 0, 0)]
            while todo:
                one = todo.pop()
                for step in steps:
                    after = plain_then(one, step)
                    if max(abs(after[0]), abs(after[1])) <= 9 and abs(after[2]) <= 40 and after not in found:
                        found.add(after)
                        todo.append(after)
            for one in box(2):
                self.assertIs(move_makes(made, Move(*one)), one in found, (str(made), one))

    def test_does_not_depend_on_how_a_lot_is_told(self):
        rng = random.Random(3)
        for _ in range(300):
            made = random_lot(rng, rng.choice([2, 9, 10 ** 6]))
            other = MoveLot(retold(rng, made.changes, move_then, move_undone, is_small))
            self.assertEqual(self.check(made), self.check(other))
            self.assertIs(self.same_by_name(same_moves, made, other), True)
            self.assertIs(self.same_by_name(moves_within, made, other), True)
            self.assertIs(moves_within(other, made), True)

    def test_same_and_within_by_told_moves(self):
        rng = random.Random(4)
        told = []
        for _ in range(500):
            one, other = random_lot(rng, 2), random_lot(rng, 2)
            first = all(in_form(move_form(other), triple(change)) for change in one.changes)
            second = all(in_form(move_form(one), triple(change)) for change in other.changes)
            self.assertIs(self.same_by_name(moves_within, one, other), first)
            self.assertIs(self.same_by_name(same_moves, one, other), first and second)
            self.assertEqual(move_form(one) == move_form(other), first and second)
            told.append((first, second))
        self.assertEqual(set(told), set(itertools.product((True, False), repeat=2)))

    def test_great_numbers(self):
        rng = random.Random(5)
        for _ in range(60):
            made = random_lot(rng, GREAT // 3)
            self.check(made)
            plan = tuple((rng.randrange(len(made)), rng.choice([-1, 1]) * rng.randint(1, MANY)) for _ in range(5))
            done = move_doing(made, plan)
            self.assertIs(self.check_made(made, done), True)
            for beside in (Move(done.east + 1, done.north, done.area), Move(done.east, done.north + 1, done.area),
                           Move(done.east, done.north, done.area + 1)):
                self.check_made(made, beside)

    def test_edges(self):
        for told, form in [([(0, 0, 0)], ((), (), 0)), ([(0, 0, 0)] * 5, ((), (), 0)), ([(0, 0, -4)], ((), (), 4)),
                           ([(0, 0, 6), (0, 0, 4)], ((), (), 2)), ([(0, -3, 5)], ((), (0, 3, -5), 0)),
                           ([(0, 3, 5), (0, 0, 4)], ((), (0, 3, 1), 4)), ([(0, 4, 1), (0, 6, 0)], ((), (0, 2, 2), 3)),
                           ([(-2, 1, 5)], ((2, -1, -7), (), 0)), ([(2, 1, 5), (0, 0, -4)], ((2, 1, 1), (), 4)),
                           ([(2, 0, 3), (4, 0, 0)], ((2, 0, 3), (), 6)), ([(4, 0, 1), (6, 0, 0)], ((2, 0, 2), (), 3)),
                           ([(1, 0, 0), (0, 1, 0)], ((1, 0, 0), (0, 1, 0), 1)), ([(1, 5, 9), (0, 1, 7)], ((1, 0, 0), (0, 1, 0), 1)),
                           ([(2, 0, 0), (0, 3, 1)], ((2, 0, 0), (0, 3, 1), 6)), ([(2, -1, 0), (0, 3, 1)], ((2, 2, 1), (0, 3, 1), 6)),
                           ([(2, 7, 100), (0, 3, -1)], ((2, 1, 0), (0, 3, 5), 6)),
                           ([(2, 0, 0), (0, 3, 1), (0, 0, 4)], ((2, 0, 0), (0, 3, 1), 2)),
                           ([(1, 1, 0), (1, 1, 1)], ((1, 1, 0), (), 1)), ([(2, 2, 0), (3, 3, 0)], ((1, 1, 1), (), 3)),
                           ([(GREAT, 0, 0), (0, GREAT, 0)], ((GREAT, 0, 0), (0, GREAT, 0), GREAT ** 2))]:
            self.assertEqual(move_form(lot(*told)), form, told)


class TestCosets(Case):
    def test_one_by_one(self):
        rng = random.Random(6)
        counts = set()
        while len(counts) < 12:
            made = random_lot(rng, 2)
            form, many = move_form(made), self.same_by_name(move_cosets, made)
            self.assertEqual(many is None, not (form[0] and form[1]))
            if many is not None and many <= 48:
                counts.add(many)
                some = list(itertools.product(range(form[0][0]), range(form[1][1]), range(form[2])))
                some += [tuple(rng.randint(-9, 9) for _ in range(3)) for _ in range(30)]
                found = []
                for one in some:
                    if not any(move_makes(made, Move(*plain_then(plain_undone(one), other))) for other in found):
                        found.append(one)
                self.assertEqual(len(found), many)

    def test_edges(self):
        for told in ([(0, 0, 0)], [(1, 0, 0)], [(0, 1, 0)], [(1, 1, 1)], [(0, 0, 1)], [(1, 0, 0), (0, 0, 1)],
                     [(0, 1, 0), (0, 0, 1)], [(2, 3, 1), (4, 6, 0)]):
            self.assertIsNone(move_cosets(lot(*told)))
        self.assertEqual(move_cosets(lot((1, 0, 0), (0, 1, 0))), 1)
        self.assertEqual(move_cosets(lot((2, 0, 0), (0, 3, 1))), 36)
        self.assertEqual(move_cosets(lot((GREAT, 1, 0), (0, GREAT, 0))), GREAT ** 4)
        self.assertEqual(move_cosets(lot((GREAT, 0, 0), (0, GREAT, 0), (0, 0, 1))), GREAT ** 2)


class TestPlans(Case):
    def test_told_plans_press_by_press(self):
        rng = random.Random(7)
        pressed = 0
        while pressed < 150:
            made = random_lot(rng, 2)
            change = move_doing(made, tuple((rng.randrange(len(made)), rng.choice([1, -1])) for _ in range(4)))
            plan = move_plan(made, change)
            if press_count(plan) < 2000:
                pressed += 1
                done = (0, 0, 0)
                for index, sign in flat(plan):
                    told = triple(made.changes[index])
                    done = plain_then(done, told if sign > 0 else plain_undone(told))
                self.assertEqual(done, triple(change))

    def test_random_plans_press_by_press(self):
        rng = random.Random(8)
        for _ in range(250):
            made = random_lot(rng, 5)
            plan = random_plan(rng, len(made), 4, [-2, -1, 1, 3])
            done = (0, 0, 0)
            for index, sign in flat(plan):
                told = triple(made.changes[index])
                done = plain_then(done, told if sign > 0 else plain_undone(told))
            self.assertEqual(triple(self.same_by_name(move_doing, made, plan)), done)
            self.assertIs(move_makes(made, Move(*done)), True)

    def test_plans_five_deep_and_times_of_40_digits(self):
        made = lot((1, 0, 2), (0, 1, 0))
        self.assertEqual(move_doing(made, deep_plan(0, 5, MANY)), Move(MANY ** 5, 0, 2 * MANY ** 5))
        self.assertEqual(move_doing(made, deep_plan(1, 5, -MANY)), Move(0, -MANY ** 5, 0))
        both = Move(1, 1, 3)
        self.assertEqual(move_doing(made, deep_plan(((0, 1), (1, 1)), 4, MANY)), move_often(both, MANY ** 4))
        gap = ((0, MANY), (1, MANY), (0, -MANY), (1, -MANY))
        self.assertEqual(move_doing(made, deep_plan(gap, 4, -MANY)), Move(0, 0, MANY ** 6))

    def test_edges(self):
        for made in (lot((0, 0, 0)), lot((1, 2, 3)), lot((0, 2, 5), (3, 0, 0))):
            self.assertEqual(move_doing(made, move_plan(made, Move(0, 0, 0))), Move(0, 0, 0))
            self.assertEqual(move_doing(made, ()), Move(0, 0, 0))
            self.assertEqual(move_doing(made, (((), MANY), ((), -1))), Move(0, 0, 0))
            self.assertEqual(move_doing(made, move_plan(made, made.changes[0])), made.changes[0])
        self.assertIsNone(move_plan(lot((0, 0, 0)), Move(0, 0, 1)))
        self.assertIsNone(move_plan(lot((1, 0, 0)), Move(0, 1, 0)))
        self.assertIsNone(move_plan(lot((0, 1, 0)), Move(1, 0, 0)))
        self.assertIsNone(move_plan(lot((2, 0, 0), (0, 1, 0)), Move(0, 0, 1)))
        self.assertEqual(move_plan(lot((0, 0, 0)), Move(0, 0, 0)), ())


class TestMeet(Case):
    def check(self, one, other):
        form = self.same_by_name(move_meet, one, other)
        self.assertEqual(form, move_meet(other, one))
        self.assertEqual(move_meet(one, one), move_form(one))
        TestForm.check_shape(self, form)
        for numbers in (form[0] or (0, 0, 0), form[1] or (0, 0, 0), (0, 0, form[2])):
            self.assertTrue(in_form(move_form(one), numbers) and in_form(move_form(other), numbers))
        return form

    def test_against_a_plain_search(self):
        rng = random.Random(9)
        with_both = 0
        for _ in range(250):
            one, other = random_lot(rng, 2, 3), random_lot(rng, 2, 3)
            form = self.check(one, other)
            with_both += bool(form[0] and form[1])
            for numbers in itertools.product(range(-12, 13), range(-6, 7), range(-6, 7)):
                if in_form(move_form(one), numbers):
                    self.assertEqual(in_form(form, numbers), in_form(move_form(other), numbers), (str(one), str(other)))
        self.assertGreater(with_both, 30)

    def test_moved_lots(self):
        # With a move ahead and it undone behind: then easts and norths differ by areas alone.
        rng = random.Random(10)
        for _ in range(150):
            one = random_lot(rng, 3, 3)
            c = Move(rng.randint(-4, 4), rng.randint(-4, 4), 0)
            other = MoveLot(tuple(move_then(move_then(c, told), move_undone(c)) for told in one.changes))
            form = self.check(one, other)
            for numbers in itertools.product(range(-12, 13, 3), range(-12, 13, 2), range(-8, 9, 2)):
                both = in_form(move_form(one), numbers) and in_form(move_form(other), numbers)
                self.assertEqual(in_form(form, numbers), both)

    def test_one_within_the_other(self):
        rng = random.Random(11)
        for _ in range(150):
            one = random_lot(rng, rng.choice([3, 10 ** 8]))
            told = tuple(move_doing(one, random_plan(rng, len(one), 2, [-2, 1, 3])) for _ in range(3))
            other = MoveLot(told)
            self.assertIs(moves_within(other, one), True)
            self.assertEqual(self.check(one, other), move_form(other))

    def test_great_numbers(self):
        rng = random.Random(12)
        for _ in range(40):
            one, other = random_lot(rng, GREAT // 3, 3), random_lot(rng, GREAT // 3, 3)
            self.check(one, other)

    def test_edges(self):
        still, right, up, area = lot((0, 0, 0)), lot((1, 0, 0)), lot((0, 1, 0)), lot((0, 0, 1))
        nothing = ((), (), 0)
        for one, other in itertools.combinations((still, right, up, area), 2):
            self.assertEqual(self.check(one, other), nothing)
        for one, other, form in [
                ([(4, 0, 0)], [(6, 0, 0)], ((12, 0, 0), (), 0)), ([(0, 4, 0)], [(0, 6, 0)], ((), (0, 12, 0), 0)),
                ([(0, 0, 4)], [(0, 0, 6)], ((), (), 12)), ([(1, 0, 0)], [(1, 0, 1)], nothing),
                ([(1, 1, 0)], [(2, 2, 1)], ((2, 2, 1), (), 0)), ([(1, 1, 0)], [(2, 2, 2)], nothing),
                ([(1, 0, 0), (0, 0, 3)], [(1, 0, 1), (0, 0, 3)], ((3, 0, 0), (), 3)),
                ([(1, 0, 0), (0, 0, 3)], [(1, 0, 1)], ((3, 0, 3), (), 0)),
                ([(1, 0, 0), (0, 2, 0)], [(1, 1, 0), (0, 2, 0)], ((4, 0, 0), (0, 2, 0), 2)),
                ([(1, 0, 0), (0, 2, 0)], [(1, 1, 0)], ((4, 4, 6), (), 0)),
                ([(1, 0, 0), (0, 1, 0)], [(2, 3, 4)], ((2, 3, 4), (), 0)),
                ([(1, 0, 0), (0, 1, 0)], [(0, 3, 4), (0, 0, 9)], ((), (0, 3, 4), 9)),
                ([(GREAT, 0, 0), (0, 1, 0)], [(GREAT - 1, 0, 0), (0, 1, 0)],
                 ((GREAT * (GREAT - 1), 0, 0), (0, 1, 0), GREAT * (GREAT - 1)))]:
            self.assertEqual(self.check(lot(*one), lot(*other)), form, (one, other))


class TestNeedless(Case):
    def test_against_the_others(self):
        rng = random.Random(13)
        told = set()
        for _ in range(300):
            made = random_lot(rng, 2)
            if len(made) > 1:
                found = self.same_by_name(needless_moves, made)
                others = [MoveLot(made.changes[:at] + made.changes[at + 1:]) for at in range(len(made))]
                self.assertEqual(found, tuple(at for at in range(len(made)) if same_moves(made, others[at])))
                told.add(len(found))
        self.assertGreater(len(told), 3)

    def test_edges(self):
        for told, needless in [([(0, 0, 0)], (0,)), ([(0, 0, 1)], ()), ([(1, 0, 0)], ()), ([(0, 0, 0), (0, 0, 0)], (0, 1)),
                               ([(1, 0, 0), (0, 1, 0), (0, 0, 1)], (2,)), ([(2, 0, 0), (0, 1, 0), (0, 0, 1)], ()),
                               ([(2, 0, 0), (0, 1, 0), (0, 0, 2)], (2,)), ([(2, 0, 0), (3, 0, 0)], ()),
                               ([(2, 0, 0), (3, 0, 0), (1, 0, 0)], (0, 1, 2)), ([(1, 1, 0), (-1, -1, 1)], (0, 1))]:
            self.assertEqual(needless_moves(lot(*told)), needless)


if __name__ == "__main__":
    unittest.main()
