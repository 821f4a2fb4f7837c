"""Changes and lots of any world: worlds, texts, what their own modules tell; errors and their order."""

import random
import unittest

from helpers import Case, ODD, check_defined, wrong_plans
from pressworlds import (movelots, moves, pointlots, points, roundlots, rounds, rowlots, rows, slidelots, slides, viewlots,
                         views, worlds)
from pressworlds.errors import (InvalidChanges, InvalidNumber, InvalidPlan, InvalidText, NotAChange, NotALot, OtherWorld,
                                TooFar, TooGreat)
from pressworlds.movelots import MoveLot
from pressworlds.moves import Move
from pressworlds.pointlots import PointLot
from pressworlds.points import Point
from pressworlds.roundlots import RoundLot
from pressworlds.rounds import Round
from pressworlds.rowlots import RowLot
from pressworlds.rows import Row
from pressworlds.slidelots import SlideLot
from pressworlds.slides import Slide
from pressworlds.viewlots import ViewLot
from pressworlds.views import View
from pressworlds.worlds import (cosets, doing, form, is_still, lot_of, makes, often, plan_of, read_change, read_lot, then,
                                undone, world_of)

LOT, ONE, CHANGE = "lot", "one", "lot change"
FUNCTIONS = {"world_of": "change", "read_change": "text", "read_lot": "text", "lot_of": "changes", "then": "one other",
             "undone": ONE, "often": "one times", "is_still": ONE, "form": LOT, "cosets": LOT, "makes": CHANGE,
             "plan_of": CHANGE, "doing": "lot plan"}
MANY = 10 ** 39 + 3
GREAT = 10 ** 30

# Each world with its still change, and some small changes of it; those that come first are not still.
SOME = {
    "rows 1": [Row(1, "aa"), Row(1, "A"), Row(1, "")],
    "rows 2": [Row(2, "abA"), Row(2, "bb"), Row(2, "aabbaabbaabb"), Row(2, "")],
    "rows 4": [Row(4, "abcd"), Row(4, "DA"), Row(4, "")],
    "grid 1": [Point((4,)), Point((-6,)), Point((GREAT,)), Point((0,))],
    "grid 2": [Point((2, 4)), Point((0, 3)), Point((-1, -1)), Point((0, 0))],
    "grid 3": [Point((1, 0, 2)), Point((0, -GREAT, 0)), Point((0, 0, 5)), Point((0, 0, 0))],
    "ruler": [Slide(1, 6), Slide(-1, 1), Slide(-1, -GREAT), Slide(1, -4), Slide(1, 0)],
    "screen 2": [View(2, 1, (0, 1)), View(2, 0, (3, 4)), View(2, -4, (-100, 1)), View(2, 0, (0, 1))],
    "screen 3": [View(3, 2, (1, 3)), View(3, 0, (-5, 9)), View(3, 0, (0, 1))],
    "screen 4": [View(4, -1, (1, 2)), View(4, 0, (7, 8)), View(4, 0, (0, 1))],
    "screen 5": [View(5, 4, (1, 625)), View(5, -3, (2, 1)), View(5, 0, (0, 1))],
    "lamps 2": [Round(2, ((0, 1),), 1), Round(2, (), 3), Round(2, ((-24, 1), (24, 1)), -8), Round(2, (), 0)],
    "lamps 3": [Round(3, ((0, 1), (1, 2)), 0), Round(3, ((1, 1),), 2), Round(3, (), 0)],
    "lamps 5": [Round(5, ((0, 4),), -1), Round(5, ((7, 3),), 0), Round(5, (), 0)],
    "lamps 7": [Round(7, ((-3, 6), (3, 2)), 4), Round(7, ((1, 5),), 0), Round(7, (), 0)],
    "areas": [Move(1, 0, 0), Move(0, 1, 0), Move(2, -3, 7), Move(0, 0, GREAT), Move(0, 0, 0)],
}
OWN = {
    "rows": (rows.row_then, rows.row_undone, rows.row_often, rowlots.row_form, rowlots.row_cosets, rowlots.row_makes,
             rowlots.row_plan, rowlots.row_doing, RowLot),
    "grid": (points.point_then, points.point_undone, points.point_often, pointlots.point_form, pointlots.point_cosets,
             pointlots.point_makes, pointlots.point_plan, pointlots.point_doing, PointLot),
    "ruler": (slides.slide_then, slides.slide_undone, slides.slide_often, slidelots.slide_form, slidelots.slide_cosets,
              slidelots.slide_makes, slidelots.slide_plan, slidelots.slide_doing, SlideLot),
    "screen": (views.view_then, views.view_undone, views.view_often, viewlots.view_form, viewlots.view_cosets,
               viewlots.view_makes, viewlots.view_plan, viewlots.view_doing, ViewLot),
    "lamps": (rounds.round_then, rounds.round_undone, rounds.round_often, roundlots.round_form, roundlots.round_cosets,
              roundlots.round_makes, roundlots.round_plan, roundlots.round_doing, RoundLot),
    "areas": (moves.move_then, moves.move_undone, moves.move_often, movelots.move_form, movelots.move_cosets,
              movelots.move_makes, movelots.move_plan, movelots.move_doing, MoveLot),
}
ALL = [change for changes in SOME.values() for change in changes]
LOTS = [lot_of(tuple(changes)) for changes in SOME.values()]
NO_CHANGES = ODD + [LOTS[0], (ALL[0],), "rows 1 a", "ruler + 1", Row, Move]
NO_TEXTS = [value for value in ODD if value != "rows 2 ab"]
NO_LOTS = ODD + [ALL[0], (ALL[0],), "rows 1 a", "areas 1 1 1", RowLot, MoveLot]


def own(world):
    return OWN[world.split(" ")[0]]


class TestWorlds(Case):
    def test_interface(self):
        check_defined(self, worlds, FUNCTIONS, {})

    def test_world_of(self):
        for world, changes in SOME.items():
            for change in changes:
                self.assertEqual(self.same_by_name(world_of, change), world)
        for value in NO_CHANGES:
            self.fails(NotAChange, value, world_of, value)
            self.fails(NotAChange, value, world_of, change=value)

    def test_texts_of_changes(self):
        for change in ALL + [Slide(1, MANY), Round(2, ((MANY, 1),), MANY), View(2, 400, (MANY, 1)), Row(2, "ab" * 200)]:
            found = self.same_by_name(read_change, str(change))
            self.assertEqual(found, change)
            self.assertIs(found.__class__, change.__class__)

    def test_texts_that_are_nearly_one(self):
        wrong = ["rows", "rows ", "rows 1", "rows 2 abc", "rows 2 aA", "rows 5 a", "grid", "grid 1", "grid 2 1", "grid 1 01",
                 "ruler", "ruler +", "ruler + -0", "ruler 1", "screen", "screen 2 zoom 0 shift 2/2", "screen 6 zoom 0 shift 1",
                 "lamps", "lamps 4 end 0 dark", "lamps 2 end 0", "areas", "areas 1 1", "areas 1 1 1 1", "area 1 1 1",
                 "Rows 1 a", " rows 1 a", "rows 1 a ", "rows 1 a\n", "ruler\n+ 1", "ruler + 1\nruler + 1", "slide + 1",
                 "rows 1 a\nareas 1 1 1", "moves 1 1 1", "points 1 1", "\n", " ", "ruler  + 1", "lamps 2 end 0 at 0:2"]
        for text in wrong + NO_TEXTS + ALL[:4] + LOTS[:2]:
            self.fails(InvalidText, text, read_change, text)
            self.fails(InvalidText, text, read_change, text=text)

    def test_texts_of_lots(self):
        for lot in LOTS:
            for some in (lot, lot_of(lot.changes[:1]), lot_of(lot.changes[:1] * 5)):
                found = self.same_by_name(read_lot, str(some))
                self.assertEqual(found, some)
                self.assertIs(found.__class__, some.__class__)

    def test_texts_that_are_nearly_lots(self):
        wrong = ["", "\n", "rows", "ruler + 1\n", "\nruler + 1", "ruler + 1\nareas 1 1 1", "areas 1 1 1\nruler + 1",
                 "rows 1 a\nrows 2 a", "grid 1 1\ngrid 2 1 1", "screen 2 zoom 0 shift 1\nscreen 3 zoom 0 shift 1",
                 "lamps 2 end 0 dark\nlamps 3 end 0 dark", f"ruler + {GREAT + 1}", f"areas 1 1 {GREAT + 1}",
                 "rows 2 " + "ab" * 7, "lamps 2 end 9 dark", "screen 2 zoom 5 shift 1", f"grid 1 {GREAT + 1}",
                 "ruler + 1 ", " ruler + 1", "ruler + 1\n\nruler + 1", "ruler + 1\r\nruler + 1", "slide + 1"]
        wrong += ["\n".join([str(changes[0])] * 6) for changes in SOME.values()]
        for text in wrong + NO_TEXTS + ALL[:4] + LOTS[:2]:
            self.fails(InvalidText, text, read_lot, text)
            self.fails(InvalidText, text, read_lot, text=text)


class TestLotOf(Case):
    def test_lots(self):
        for world, changes in SOME.items():
            found = self.same_by_name(lot_of, tuple(changes))
            self.assertIs(found.__class__, own(world)[8])
            self.assertEqual(found, own(world)[8](tuple(changes)))
            self.assertEqual(found.changes, tuple(changes))
            for many in range(1, 6):
                self.assertEqual(len(lot_of((changes[0],) * many)), many)

    def test_wrong_changes(self):
        for value in ODD + [list(ALL[:1]), ALL[0], LOTS[0], str(ALL[0]), (None,), (1, ALL[0]), (LOTS[0],), (ALL[:1],)]:
            if value not in ALL or not isinstance(value, tuple):
                self.fails(InvalidChanges, None, lot_of, value)
                self.fails(InvalidChanges, None, lot_of, changes=value)
        for world, changes in SOME.items():
            good = changes[0]
            for at in range(1, 5):
                for value in ODD + [change for change in ALL if world_of(change) != world] + [LOTS[0], (good,)]:
                    self.fails(InvalidChanges, at, lot_of, (good,) * at + (value,))
            self.fails(InvalidChanges, 5, lot_of, (good,) * 6)
            self.fails(InvalidChanges, 5, lot_of, (good,) * 5 + (None,))
        great = [Row(2, "ab" * 7), Point((GREAT + 1,)), Slide(1, GREAT + 1), View(2, 5, (0, 1)), Round(2, (), 9),
                 Move(GREAT + 1, 0, 0)]
        for value in great:
            self.fails(InvalidChanges, 0, lot_of, (value,))
            self.fails(InvalidChanges, 0, lot_of, (value, None))


class TestAsInTheWorld(Case):
    def test_then_undone_often_still(self):
        for world, changes in SOME.items():
            own_then, own_undone, own_often = own(world)[:3]
            for one in changes:
                self.assertEqual(self.same_by_name(undone, one), own_undone(one))
                self.assertIs(self.same_by_name(is_still, one), one == changes[-1])
                self.assertIs(is_still(then(one, undone(one))), True)
                for times in (-3, -1, 0, 1, 2, 5):
                    self.assertEqual(self.same_by_name(often, one, times), own_often(one, times))
                for other in changes:
                    self.assertEqual(self.same_by_name(then, one, other), own_then(one, other))
        for far in (Round(2, ((MANY, 1),), 0), Slide(-1, MANY), Move(0, 0, MANY), Point((MANY,)), View(2, 0, (1, 2 ** 99))):
            self.assertIs(is_still(far), False)

    def test_form_cosets_makes_plan_doing(self):
        rng = random.Random(1)
        for (world, changes), lot in zip(SOME.items(), LOTS):
            _, _, _, own_form, own_cosets, own_makes, own_plan, own_doing, _ = own(world)
            for some in (lot, lot_of(lot.changes[:1]), lot_of((changes[-1],)), lot_of(lot.changes[1:])):
                self.assertEqual(self.same_by_name(form, some), own_form(some))
                self.assertEqual(self.same_by_name(cosets, some), own_cosets(some))
                for change in changes:
                    self.assertIs(self.same_by_name(makes, some, change), own_makes(some, change))
                    plan = self.same_by_name(plan_of, some, change)
                    self.assertEqual(plan, own_plan(some, change))
                    if plan is not None:
                        self.assertEqual(doing(some, plan), change)
                for _ in range(4):
                    plan = tuple((rng.randrange(len(some)), rng.choice([-1, 1, 2])) for _ in range(3))
                    self.assertEqual(self.same_by_name(doing, some, plan), own_doing(some, plan))
                self.assertEqual(doing(some, ()), changes[-1])

    def test_errors_of_the_world(self):
        self.fails(TooGreat, 402, then, Row(2, "ab" * 200), Row(2, "ab"))
        self.fails(TooGreat, 401, often, Row(1, "a"), 401)
        self.fails(TooGreat, 401, then, View(2, 400, (0, 1)), View(2, 1, (0, 1)))
        self.fails(TooGreat, MANY, often, View(2, 1, (0, 1)), MANY)
        self.fails(TooGreat, MANY, often, Round(2, ((0, 1),), 1), MANY)
        self.fails(TooGreat, 404, doing, lot_of((View(2, 4, (0, 1)),)), ((0, 101), (0, -101)))
        self.fails(TooGreat, 401, doing, lot_of((Round(2, ((0, 1),), 1),)), ((0, 401), (0, -401)))
        self.fails(TooGreat, 402, doing, lot_of((Row(2, "ab"),)), ((0, 201), (0, -201)))
        for lot, far in [(lot_of((View(2, 1, (0, 1)),)), View(2, 9, (0, 1))), (lot_of((Round(2, (), 1),)), Round(2, (), 41))]:
            for call in (makes, plan_of):
                self.fails(TooFar, far, call, lot, far)
        far = Row(2, "ab" * 101)
        self.fails(TooFar, far, plan_of, lot_of((Row(2, "ab"),)), far)
        self.assertIs(makes(lot_of((Row(2, "ab"),)), far), True)


class TestErrors(Case):
    def test_no_change(self):
        for value in NO_CHANGES:
            for call in (undone, is_still):
                self.fails(NotAChange, value, call, value)
                self.fails(NotAChange, value, call, one=value)
            self.fails(NotAChange, value, often, value, None)
            for good in (changes[0] for changes in SOME.values()):
                self.fails(NotAChange, value, then, value, good)
                self.fails(NotAChange, value, then, good, value)
                self.fails(NotAChange, value, then, other=None, one=value)
            for lot in LOTS:
                for call in (makes, plan_of):
                    self.fails(NotAChange, value, call, lot, value)
                    self.fails(NotAChange, value, call, change=value, lot=lot)

    def test_no_lot(self):
        for value in NO_LOTS:
            for call in (form, cosets):
                self.fails(NotALot, value, call, value)
                self.fails(NotALot, value, call, lot=value)
            for call in (makes, plan_of, doing):
                self.fails(NotALot, value, call, value, None)
                self.fails(NotALot, value, call, value, ALL[0])
            self.fails(NotALot, value, doing, plan=(), lot=value)

    def test_other_world(self):
        firsts = [(world, changes[0]) for world, changes in SOME.items()]
        for world, one in firsts:
            for other_world, other in firsts:
                if world != other_world:
                    self.fails(OtherWorld, other, then, one, other)
                    self.fails(OtherWorld, other, then, other=other, one=one)
                    for call in (makes, plan_of):
                        self.fails(OtherWorld, other, call, lot_of((one,)), other)
                        self.fails(OtherWorld, other, call, change=other, lot=lot_of((one,)))
        for lot in (lot_of((View(2, 1, (0, 1)),)), lot_of((Round(2, (), 1),)), lot_of((Row(2, "ab"),))):
            for far in (View(3, 400, (0, 1)), Round(3, (), MANY), Row(3, "ab" * 200)):
                self.fails(OtherWorld, far, plan_of, lot, far)

    def test_no_number_no_plan(self):
        for value in [None, True, False, "1", "", (1,), [1], (), {}, b"1", object(), ALL[0]]:
            for one in (changes[0] for changes in SOME.values()):
                self.fails(InvalidNumber, value, often, one, value)
                self.fails(InvalidNumber, value, often, times=value, one=one)
        for changes in SOME.values():
            lot = lot_of((changes[0], changes[-1]))
            for value in wrong_plans():
                self.fails(InvalidPlan, value, doing, lot, value)
                self.fails(InvalidPlan, value, doing, plan=value, lot=lot)


if __name__ == "__main__":
    unittest.main()
