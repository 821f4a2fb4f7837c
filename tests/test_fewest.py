"""Presses: how many changes need, the first rows of them, spheres; errors and their order."""

import itertools
import random
import unittest

from helpers import Case, ODD, check_defined
from pressworlds import fewest
from pressworlds.errors import InvalidNumber, NotAChange, NotALot, OtherWorld, TooMany
from pressworlds.fewest import first_presses, presses, spheres
from pressworlds.moves import Move
from pressworlds.points import Point
from pressworlds.rounds import Round
from pressworlds.rows import Row
from pressworlds.slides import Slide
from pressworlds.views import View
from pressworlds.worlds import lot_of, makes, often, read_lot, then
from samples import GREAT, MANY, NOT_SMALL, SIX, STILL, WORLDS, pressed, random_change, random_lot, still

FUNCTIONS = {"presses": "lot change most", "first_presses": "lot change most", "spheres": "lot most"}
BOTH = lot_of((Move(1, 0, 0), Move(0, 1, 0)))
# So many changes need at most so many presses of these lots.
JUST_5000 = ("lamps 2 end 2 at -3:1 -1:1 3:1\nlamps 2 end 3 at -2:1 0:1\nlamps 2 end -2 dark\nlamps 2 end -2 at 0:1\n"
             "lamps 2 end -2 at -1:1 2:1", 4)
JUST_5001 = ("lamps 2 end 0 at 0:1\nlamps 2 end 0 dark\nlamps 2 end 2 at -1:1 2:1\nlamps 2 end -2 at -3:1 2:1\n"
             "lamps 2 end -1 at 2:1", 5)
JUST_4999 = ("rows 2 AbAB\nrows 2 aa\nrows 2 a\nrows 2 B\nrows 2 BaBa", 4)
NO_MOST = [-1, 7, 8, 10 ** 40, -10 ** 40, True, False, None, "1", "", (1,), [1], (), [], {}, b"1", object(), int]


def plain_rows(lot, most):
    """Return a dict from the texts of changes to their first rows of presses, by all rows of presses in their order."""
    order = [(index, sign) for index in range(len(lot)) for sign in (1, -1)]
    found = {}
    for many in range(most + 1):
        for row in itertools.product(order, repeat=many):
            found.setdefault(str(pressed(lot, row)), row)
    return found


class TestFewest(Case):
    def test_interface(self):
        check_defined(self, fewest, FUNCTIONS, {})

    def test_against_all_rows_of_presses(self):
        rng = random.Random(1)
        for world in WORLDS * 2:
            for _ in range(4):
                lot = random_lot(rng, world, 3)
                most = {1: 6, 2: 4, 3: 3, 4: 3, 5: 2}[len(lot)]
                plain = plain_rows(lot, most)
                for less in range(most + 1):
                    self.check_spheres(lot, less, plain)
                for text, row in rng.sample(sorted(plain.items()), min(25, len(plain))):
                    self.check_change(lot, pressed(lot, row), row, most)
                    for less in range(len(row)):
                        self.check_change(lot, pressed(lot, row), None, less)

    def check_spheres(self, lot, most, plain):
        sizes = self.same_by_name(spheres, lot, most)
        self.assertEqual(sizes, tuple(sum(len(row) == many for row in plain.values()) for many in range(most + 1)))
        self.assertIs(sizes.__class__, tuple)

    def check_change(self, lot, change, row, most):
        """Check what is told of a change with this first row, None if it needs more than so many presses."""
        self.assertEqual(self.same_by_name(first_presses, lot, change, most), row)
        self.assertEqual(self.same_by_name(presses, lot, change, most), None if row is None else len(row))

    def test_changes_that_are_not_made(self):
        rng = random.Random(2)
        for world in WORLDS:
            lot = lot_of((random_change(rng, world, 2), random_change(rng, world, 2)))
            for _ in range(10):
                change = random_change(rng, world, 4)
                if not makes(lot, change):
                    for most in (0, 3, 5):
                        self.check_change(lot, change, None, most)
        for world, changes in NOT_SMALL.items():
            for change in changes:
                self.check_change(lot_of((still(world),)), change, None, 6)
        self.check_change(lot_of((Slide(1, 1),)), Slide(1, MANY), None, 6)
        self.check_change(lot_of((Round(2, (), 1),)), Round(2, ((MANY, 1),), MANY), None, 6)

    def test_no_press(self):
        for world in WORLDS:
            lot = random_lot(random.Random(world), world, 3)
            self.check_change(lot, still(world), (), 0)
            self.assertEqual(spheres(lot, 0), (1,))
            self.assertEqual(first_presses(lot, still(world), 2), ())
            for told in lot.changes:
                if str(told) != STILL[world]:
                    self.check_change(lot, told, None, 0)

    def test_turns_are_one_change(self):
        lot = lot_of((Slide(-1, 3),))
        self.assertEqual(spheres(lot, 6), (1, 1, 0, 0, 0, 0, 0))
        self.check_change(lot, Slide(-1, 3), ((0, 1),), 1)
        lot = lot_of((Slide(-1, 3), Slide(-1, 4)))
        self.assertEqual(spheres(lot, 4), (1, 2, 2, 2, 2))
        self.check_change(lot, Slide(1, -1), ((0, 1), (1, 1)), 2)
        lot = lot_of((Round(2, ((0, 1),), 0), Round(2, ((1, 1),), 0)))
        self.assertEqual(spheres(lot, 3), (1, 2, 1, 0))
        self.check_change(lot, Round(2, ((0, 1), (1, 1)), 0), ((0, 1), (1, 1)), 6)

    def test_still_changes_and_changes_told_twice(self):
        lot = lot_of((Slide(1, 0), Slide(1, 2), Slide(1, 2), Slide(1, -2)))
        self.assertEqual(spheres(lot, 6), (1, 2, 2, 2, 2, 2, 2))
        self.check_change(lot, Slide(1, 2), ((1, 1),), 1)
        self.check_change(lot, Slide(1, -4), ((1, -1), (1, -1)), 2)
        for world in WORLDS:
            self.assertEqual(spheres(lot_of((still(world),) * 5), 6), (1, 0, 0, 0, 0, 0, 0))

    def test_order_of_presses(self):
        lot = lot_of((Point((1, 0)), Point((0, 1)), Point((-1, 0))))
        self.check_change(lot, Point((-1, 0)), ((0, -1),), 1)
        self.check_change(lot, Point((-1, 1)), ((0, -1), (1, 1)), 2)
        self.check_change(lot, Point((1, 1)), ((0, 1), (1, 1)), 2)
        lot = lot_of((Row(2, "ab"), Row(2, "a"), Row(2, "b")))
        self.check_change(lot, Row(2, "ab"), ((0, 1),), 6 - 2)
        self.check_change(lot, Row(2, "B"), ((2, -1),), 1)
        self.check_change(lot, Row(2, "aab"), ((1, 1), (0, 1)), 3)

    def test_one_still_needs_more_than_shorter_presses(self):
        self.assertEqual(presses(BOTH, Move(0, 0, 1), 6), 4)
        self.assertIsNone(presses(BOTH, Move(0, 0, 1), 3))
        self.assertEqual(first_presses(BOTH, Move(0, 0, 1), 4), ((0, 1), (1, 1), (0, -1), (1, -1)))
        self.assertEqual(spheres(BOTH, 6)[:4], (1, 4, 12, 36))

    def test_great_numbers(self):
        lot = lot_of((Slide(1, GREAT), Slide(-1, -GREAT)))
        self.check_change(lot, Slide(1, 6 * GREAT), ((0, 1),) * 6, 6)
        lot = lot_of((Move(GREAT, 1, 0), Move(0, GREAT, 0)))
        self.check_change(lot, then(often(lot.changes[0], 2), often(lot.changes[1], -3)),
                ((0, 1),) * 2 + ((1, -1),) * 3, 5)
        lot = lot_of((View(5, 4, (100, 1)),))
        self.check_change(lot, often(lot.changes[0], -6), ((0, -1),) * 6, 6)
        lot = lot_of((Round(7, tuple((place, 1) for place in range(-24, 25)), 8),))
        self.check_change(lot, often(lot.changes[0], 6), ((0, 1),) * 6, 6)
        lot = lot_of((Row(4, "abcdabcdabcd"),))
        self.check_change(lot, often(lot.changes[0], -6), ((0, -1),) * 6, 6)


class TestTooMany(Case):
    def test_5000_and_5001(self):
        for (text, most), many in ((JUST_5000, 5000), (JUST_4999, 4999)):
            lot = read_lot(text)
            self.assertEqual(sum(spheres(lot, most)), many)
            self.assertEqual(presses(lot, lot.changes[0], most), 1)
            self.assertIsNotNone(first_presses(lot, pressed(lot, ((2, 1),) * most), most))
        for text, most in (JUST_5001, (JUST_5000[0], 5), (JUST_4999[0], 5)):
            lot = read_lot(text)
            told = lot.changes[0]
            self.assertLess(sum(spheres(lot, most - 1)), 5001)
            self.fails(TooMany, 5001, spheres, lot, most)
            self.fails(TooMany, 5001, spheres, most=6, lot=lot)
            # However few presses this very change needs.
            for change in (told, often(told, 0)):
                self.fails(TooMany, 5001, presses, lot, change, most)
                self.fails(TooMany, 5001, first_presses, most=most, change=change, lot=lot)

    def test_rows_of_three_letters(self):
        lot = lot_of((Row(3, "a"), Row(3, "b"), Row(3, "c")))
        self.assertEqual(spheres(lot, 5), (1, 6, 30, 150, 750, 3750))
        self.fails(TooMany, 5001, spheres, lot, 6)
        self.assertEqual(spheres(lot_of((Row(2, "a"), Row(2, "b"))), 6), (1, 4, 12, 36, 108, 324, 972))


class TestErrors(Case):
    def test_no_lot(self):
        for value in ODD + [Move(1, 0, 0), (Move(1, 0, 0),), "areas 1 0 0"]:
            for call in (presses, first_presses):
                self.fails(NotALot, value, call, value, Move(1, 0, 0), 3)
                self.fails(NotALot, value, call, value, None, None)
                self.fails(NotALot, value, call, most=None, change=None, lot=value)
            self.fails(NotALot, value, spheres, value, 3)
            self.fails(NotALot, value, spheres, most=None, lot=value)

    def test_no_change(self):
        for value in ODD + [BOTH, (Move(1, 0, 0),), "areas 1 0 0", Move]:
            for call in (presses, first_presses):
                self.fails(NotAChange, value, call, BOTH, value, 3)
                self.fails(NotAChange, value, call, BOTH, value, None)
                self.fails(NotAChange, value, call, most=7, change=value, lot=BOTH)

    def test_no_most(self):
        for value in NO_MOST:
            self.fails(InvalidNumber, value, spheres, BOTH, value)
            self.fails(InvalidNumber, value, spheres, most=value, lot=BOTH)
            for change in (Move(1, 0, 0), Slide(1, 1), Row(2, "a")):
                for call in (presses, first_presses):
                    self.fails(InvalidNumber, value, call, BOTH, change, value)
                    self.fails(InvalidNumber, value, call, most=value, change=change, lot=BOTH)
            self.fails(InvalidNumber, value, spheres, read_lot(JUST_5001[0]), value)

    def test_other_world_ahead_of_too_many(self):
        lots = [lot_of((still(world),)) for world in SIX] + [read_lot(JUST_5001[0])]
        for lot in lots:
            for world in WORLDS:
                if STILL[world].split(" end")[0].split(" zoom")[0][:7] != lot.text[:7]:
                    change = still(world)
                    for call in (presses, first_presses):
                        self.fails(OtherWorld, change, call, lot, change, 6)
                        self.fails(OtherWorld, change, call, most=0, change=change, lot=lot)


if __name__ == "__main__":
    unittest.main()
