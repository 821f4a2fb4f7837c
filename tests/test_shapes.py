"""Papers of what is missed: values that have all that forms are told to be, and others, in all worlds."""

import random
import unittest

from helpers import ODD, random_word
from pressworlds.checker import accepts
from pressworlds.movelots import MoveLot, move_form
from pressworlds.moves import Move
from pressworlds.pointlots import PointLot, point_form
from pressworlds.points import Point
from pressworlds.roundlots import RoundLot, round_form
from pressworlds.rounds import Round
from pressworlds.rowlots import RowLot, row_form
from pressworlds.rows import Row
from pressworlds.slidelots import SlideLot, slide_form
from pressworlds.slides import Slide
from pressworlds.viewlots import ViewLot, view_form
from pressworlds.views import View
from pressworlds.worlds import form, lot_of, makes, world_of
from samples import GREAT, MANY, STILL, WORLDS, random_change, random_lot, still
from test_checker import CheckerCase, nearly


def own_form(world, value):
    """Return the form of the lot of what such a value is told to make, None where that is no lot.

    A value has all that the form is told to be exactly if this is the value itself.
    """
    kind, _, number = world.partition(" ")
    try:
        if kind == "grid":
            return point_form(PointLot((still(world),) + tuple(Point(line) for line in value)))
        if kind == "ruler":
            return slide_form(SlideLot((Slide(1, value[0]),) + tuple(Slide(-1, shift) for shift in value[1])))
        if kind == "screen":
            told = (View(int(number), 0, value[1]),) + tuple(View(int(number), value[0], shift) for shift in value[2])
            return view_form(ViewLot(told))
        if kind == "lamps":
            told = tuple(Round(int(number), lamps, 0) for lamps in value[1])
            told += (Round(int(number), value[2], value[0]),) if value[0] else ()
            return round_form(RoundLot(told or (still(world),)))
        parts = [part for part in value[:2] if part] + [(0, 0, value[2])]
        return move_form(MoveLot(tuple(Move(*part) for part in parts)))
    except (ValueError, TypeError, IndexError, ArithmeticError, AttributeError, KeyError):
        return None


def changed_numbers(value):
    """Return this tuple with each of its integers changed a little."""
    found = []
    for at, part in enumerate(value):
        if isinstance(part, tuple):
            others = changed_numbers(part)
        elif isinstance(part, str):
            others = ["a", "b", "A", "", "ab", "z"]
        else:
            others = [part + 1, part - 1, -part, 2 * part, part + 2, 0, 1, bool(part)]
        found += [value[:at] + (other,) + value[at + 1:] for other in others]
    return found


def misses(lot, value, change):
    """Return whether a value is taken as paper that a lot misses a change."""
    return accepts(("misses", lot.text, str(change)), value)


def same_kinds(value, other):
    """Return whether two equal values are so throughout, without True in the place of 1."""
    if isinstance(value, tuple) and isinstance(other, tuple):
        return len(value) == len(other) and all(same_kinds(one, two) for one, two in zip(value, other))
    return value.__class__ is other.__class__ and value == other


class TestShapes(CheckerCase):
    def test_own_forms(self):
        rng = random.Random(1)
        for world in WORLDS:
            missed = 0
            for _ in range(25):
                lot = random_lot(rng, world, 3)
                for change in [random_change(rng, world, 4) for _ in range(5)]:
                    self.assertIs(misses(lot, form(lot), change), not makes(lot, change))
                    missed += not makes(lot, change)
                for told in lot.changes + (still(world),):
                    self.assertIs(misses(lot, form(lot), told), False)
            self.assertGreater(missed, 5)

    def test_values_that_are_nearly_forms(self):
        rng = random.Random(2)
        for world in WORLDS[4:]:
            taken = 0
            for _ in range(12):
                lot, giver = random_lot(rng, world, 2), random_lot(rng, world, 2)
                lot = lot_of(lot.changes[:2])
                changes = [random_change(rng, world, 3) for _ in range(4)]
                for begun in {form(lot), form(giver)}:
                    for value in [begun] + changed_numbers(begun) + nearly(begun):
                        taken += self.check_value(world, lot, value, changes)
            self.assertGreater(taken, 3, world)

    def check_value(self, world, lot, value, changes):
        """Check for each change whether a value is taken; return whether it is for one."""
        found = [misses(lot, value, change) for change in changes]
        told = own_form(world, value) if isinstance(value, tuple) else None
        good = told is not None and told == value and same_kinds(told, value)
        if good:
            makers = self.lot_of_shape(world, value)
            within = all(makes(makers, one) for one in lot.changes)
            for change, taken in zip(changes, found):
                self.assertIs(taken, within and not makes(makers, change), (lot.text, value, str(change)))
        else:
            self.assertFalse(any(found), (lot.text, value))
        return any(found)

    def lot_of_shape(self, world, value):
        """Return a lot whose form is this value."""
        kind, _, number = world.partition(" ")
        if kind == "grid":
            return PointLot(tuple(Point(line) for line in value) or (still(world),))
        if kind == "ruler":
            return SlideLot((Slide(1, value[0]),) + tuple(Slide(-1, shift) for shift in value[1]))
        if kind == "screen":
            return ViewLot((View(int(number), 0, value[1]),) + tuple(View(int(number), value[0],
                    shift) for shift in value[2]))
        if kind == "lamps":
            told = tuple(Round(int(number), lamps, 0) for lamps in value[1])
            return RoundLot((told + ((Round(int(number), value[2], value[0]),) if value[0] else ())) or (still(world),))
        return MoveLot(tuple(Move(*part) for part in [part for part in value[:2] if part] + [(0, 0, value[2])]))

    def test_other_worlds(self):
        forms = {world: form(random_lot(random.Random(world), world, 3)) for world in WORLDS}
        for world in WORLDS:
            for other in WORLDS:
                if other != world:
                    for change in (still(other), random_change(random.Random(1), other, 3)):
                        self.no(("misses", STILL[world], str(change)), forms[world])
                        self.no(("misses", STILL[world], str(change)), forms[other])


class TestWebs(CheckerCase):
    def test_numbered_anyhow(self):
        rng = random.Random(3)
        for _ in range(60):
            lot = RowLot(tuple(Row(2, random_word(rng, 2, rng.randint(1, 4))) for _ in range(rng.randint(1, 3))))
            ties = row_form(lot)
            places = sorted({place for tie in ties for place in (tie[0], tie[2])} - {0})
            for numbers in (rng.sample(range(1, len(places) + 1), len(places)), rng.sample(range(1, 500), len(places)),
                            [MANY + place for place in places]):
                moved = dict(zip(places, numbers))
                moved[0] = 0
                web = tuple(sorted((moved[place], way, moved[goal]) for place, way, goal in ties))
                for _ in range(4):
                    row = Row(2, random_word(rng, 2, rng.randint(0, 4)))
                    self.assertIs(misses(lot, web, row), not makes(lot, row))

    def test_webs_with_more_that_are_folded(self):
        lot = RowLot((Row(2, "ab"),))
        ring = ((0, "a", 1), (1, "b", 0))
        for web in (ring, ring + ((5, "a", 6),), ring + ((2, "a", 2), (2, "b", 3)), ring + ((1, "c", 1),)):
            self.assertIs(misses(lot, web, Row(2, "ba")), "c" not in str(web))
        self.assertIs(misses(lot, ((0, "a", 1), (0, "b", 2), (1, "b", 0)), Row(2, "ba")), True)
        self.assertIs(misses(lot, ((0, "a", 1), (1, "a", 2), (1, "b", 0), (2, "b", 1)), Row(2, "ba")), True)
        self.assertIs(misses(lot, ((0, "a", 1), (0, "b", 2), (1, "b", 0), (2, "a", 0)), Row(2, "ba")), False)
        self.assertIs(misses(lot, ((0, "a", 0), (0, "b", 0)), Row(2, "aab")), False)

    def test_wrong_webs(self):
        lot, row = RowLot((Row(2, "ab"), Row(2, "aab"))), Row(2, "b")
        lot = RowLot((Row(2, "ab"),))
        good = ((0, "a", 1), (1, "b", 0))
        self.assertIs(misses(lot, good, row), True)
        wrong = [good[::-1], good + good[1:], good[:1], good[1:], list(good), (list(good[0]), good[1]),
                 (good[0], list(good[1])),
                 ((0, "a", 1), (0, "a", 2), (1, "b", 0)), ((0, "a", 1), (1, "b", 0), (2, "b", 0)),
                 ((0, "a", 1), (1, "b", 0), (2, "a", 1)),
                 ((-1, "a", 1), (0, "a", 1), (1, "b", 0)), ((0, "a", -1), (-1, "b", 0)), ((-1, "b", 0), (0, "a", -1)),
                 ((0, "A", 1), (1, "b", 0)), ((0, "b", 1), (1, "a", 0)), ((0, "a", 1), (0, "B", 1)),
                 ((0, "a", 1), (1, "B", 0)),
                 ((False, "a", 1), (1, "b", 0)), ((0, "a", True), (True, "b", 0)), ((0, "a", 1), (1, "b", False)),
                 ((0, "a", 1), (1, "b", 0, 0)), ((0, "a", 1), (1, "b")), ((0, "", 1), (1, "b", 0)), ((0, "ab", 0),),
                 ((0, "a", 1), (1, "b", 0), ()),
                 ((0, "a", 1), (1, "b", 0), None), ((0, "a", "1"), ("1", "b", 0)), ((0, ("a",), 1), (1, "b", 0)),
                 ((0, "a", 1), (1, "c", 1), (1, "b", 0)),
                 ((0, "a", 1), (1, "b", 0), (1, "c", 1)), ((0, "a", 1), (1, "b", 0), (3, "d", 4)),
                 ((3, "a", 1), (1, "b", 3)), (), (0, "a", 1),
                 ((1, "a", 2), (2, "b", 1)), ((0, b"a", 1), (1, "b", 0)), ((0, None, 1), (1, "b", 0)),
                 ((0, 1, 1), (1, "b", 0))]
        for web in wrong + ODD:
            self.no(("misses", lot.text, str(row)), web)

    def test_capitals_are_no_letters_of_ties(self):
        self.no(("misses", "rows 2 A", "rows 2 a"), ((0, "A", 0),))
        self.no(("misses", "rows 2 B", "rows 2 b"), ((0, "B", 0), (0, "a", 1)))
        self.no(("misses", "rows 2 A", "rows 2 b"), ((0, "A", 0),))
        self.yes(("misses", "rows 2 A", "rows 2 b"), ((0, "a", 0),))

    def test_still_rows(self):
        lot = RowLot((Row(3, ""),))
        self.yes(("misses", lot.text, "rows 3 " + "abc" * 100), ())
        self.no(("misses", lot.text, "rows 3 -"), ())
        self.yes(("misses", lot.text, "rows 3 a"), ((0, "a", 1), (1, "b", 2)))
        self.no(("misses", lot.text, "rows 3 a"), ((0, "a", 0),))

    def test_rows_that_are_not_near(self):
        self.yes(("misses", "rows 1 aa", "rows 1 " + "a" * 399), ((0, "a", 1), (1, "a", 0)))
        self.no(("misses", "rows 1 aa", "rows 1 " + "a" * 400), ((0, "a", 1), (1, "a", 0)))


class TestByHand(CheckerCase):
    def test_lines(self):
        claim = ("misses", "grid 2 2 4\ngrid 2 0 6", "grid 2 1 1")
        for paper, good in [(((2, 4), (0, 6)), True), (((2, 1), (0, 3)), True), (((2, 0), (0, 2)), True),
                            (((2, 0), (0, 1)), True),
                            (((1, 0), (0, 2)), True), (((1, 2),), False), (((2, 4),), False), (((0, 6), (2, 4)), False),
                            (((2, 4), (0, -6)), False), (((-2, 4), (0, 6)), False), (((2, 6), (0, 6)), False),
                            (((2, -2), (0, 6)), False),
                            (((2, 4), (0, 6), (0, 0)), False), (((2, 4), (0, 0)), False), (((2, 4), (2, 10)), False),
                            (((1, 0), (0, 1)), False),
                            ((), False), ([(2, 4), (0, 6)], False), (([2, 4], (0, 6)), False),
                            (((2, 4, 0), (0, 6, 0)), False),
                            (((2, True), (0, 3)), False), (((2, 1), (False, 3)), False), (((2,), (0, 6)), False),
                            (((2, 4), (0, 6), (0, 12)), False),
                            (((2, "4"), (0, 6)), False), ((2, 4, 0, 6), False)]:
            self.assertIs(self.takes(claim, paper), good, paper)
        self.yes(("misses", f"grid 1 {GREAT}", f"grid 1 {MANY}"), ((GREAT,),))

    def test_slides(self):
        claim = ("misses", "ruler + 12\nruler - 5", "ruler - 6")
        for paper, good in [((12, (5,)), True), ((6, (5,)), True), ((4, (1,)), True), ((3, (2,)), True),
                            ((2, (1,)), True), ((1, (0,)), False),
                            ((12, (17,)), False), ((12, (-7,)), False), ((-12, (5,)), False), ((12, ()), False),
                            ((12, (5, 5)), False),
                            ((12, [5]), False), ([12, (5,)], False), ((12, (5,), 0), False), ((12,), False),
                            ((12, 5), False), ((24, (5,)), False),
                            ((0, (5,)), False), ((True, (0,)), False), ((12, (True,)), False), ((2, (True,)), False),
                            ((12, None), False)]:
            self.assertIs(self.takes(claim, paper), good, paper)
        self.yes(("misses", "ruler - 5", "ruler - 6"), (0, (5,)))
        self.yes(("misses", "ruler - -5", "ruler - 5"), (0, (-5,)))
        self.yes(("misses", "ruler - 5", f"ruler - {MANY}"), (MANY - 5, (5,)) if (MANY - 5) % 2 else (7 * MANY, (5,)))

    def test_views(self):
        claim = ("misses", "screen 2 zoom 2 shift 1\nscreen 2 zoom 0 shift 45/4", "screen 2 zoom 0 shift 1/2")
        for paper, good in [((2, (45, 1), ((1, 1),)), True), ((2, (15, 1), ((1, 1),)), True),
                            ((1, (3, 1), ((1, 1),)), False),
                            ((1, (5, 1), ((2, 1),)), True), ((2, (9, 1), ((1, 1),)), True),
                            ((2, (1, 1), ((0, 1),)), False),
                            ((2, (15, 1), ((16, 1),)), False), ((2, (15, 1), ((-14, 1),)), False),
                            ((2, (30, 1), ((1, 1),)), False),
                            ((2, (15, 2), ((1, 1),)), False), ((2, (-15, 1), ((1, 1),)), False),
                            ((-2, (15, 1), ((1, 1),)), False),
                            ((2, (15, 1), ((1, 1), (1, 1))), False), ((2, (15, 1), ()), False),
                            ((2, 15, ((1, 1),)), False), ((2, (15, 1), (1,)), False),
                            ((2, (30, 2), ((1, 1),)), False), ((2, (15, 1), ((2, 2),)), False),
                            ((2, (0, 1), ((1, 1),)), False),
                            ((4, (15, 1), ((1, 1),)), False), ((0, (1, 4), ()), False),
                            ([2, (15, 1), ((1, 1),)], False),
                            ((2, [15, 1], ((1, 1),)), False), ((2, (15, 1), [(1, 1)]), False),
                            ((2, (15, True), ((1, 1),)), False),
                            ((2, (15, 1), ((1, 1),), 0), False), ((2, (15, 1), ((1, 2),)), False),
                            ((True, (5, 1), ((2, 1),)), False)]:
            self.assertIs(self.takes(claim, paper), good, paper)

    def test_views_without_zoom(self):
        claim = ("misses", "screen 2 zoom 0 shift 3/4\nscreen 2 zoom 0 shift 6", "screen 2 zoom 0 shift 1/2")
        for paper, good in [((0, (3, 4), ()), True), ((0, (3, 8), ()), True), ((0, (1, 4), ()), False),
                            ((0, (0, 1), ()), False), ((0, (3, 2), ()), False),
                            ((0, (-3, 4), ()), False), ((0, (6, 8), ()), False), ((0, (3, 4), ((0, 1),)), False),
                            ((1, (3, 1), ((0, 1),)), True),
                            ((4, (3, 1), ((2, 1),)), True), ((400, (3, 1), ((1, 1),)), True),
                            ((MANY, (3, 1), ((1, 1),)), False),
                            ((0, (1, 12), ()), False), ((0, (3, 20), ()), False), ((0, (3, 1), ()), False),
                            ((1, (0, 1), ((1, 2),)), False)]:
            self.assertIs(self.takes(claim, paper), good, paper)
        self.yes(("misses", "screen 3 zoom 3 shift 1/3", "screen 3 zoom 3 shift 1"), (3, (0, 1), ((1, 3),)))
        self.no(("misses", "screen 3 zoom 3 shift 1/3", "screen 3 zoom 3 shift 1"), (3, (0, 1), ((1, 2),)))
        self.yes(("misses", "screen 3 zoom 0 shift 0", "screen 3 zoom 1 shift 0"), (0, (0, 1), ()))
        for shift, good in [((1, 3), True), ((-2, 9), True), ((5, 1), True), ((0, 1), True), ((1, 2), False),
                            ((1, 6), False),
                            ((3, 9), False), ((1, -3), False), ((1, 0), False), ((1, True), False)]:
            self.assertIs(self.takes(("misses", "screen 3 zoom 0 shift 0", "screen 3 zoom 3 shift 1"),
                                     (3, (0, 1), (shift,))), good, shift)

    def test_views_and_rounds_that_are_not_near(self):
        nothing = (0, (0, 1), ())
        for text, good in [("screen 2 zoom 8 shift 0", True), ("screen 2 zoom 9 shift 0", False),
                           ("screen 2 zoom 0 shift 1000", True),
                           ("screen 2 zoom 0 shift 1001", False), ("screen 2 zoom 0 shift 1/256", True),
                           ("screen 2 zoom 0 shift 1/512", False)]:
            self.assertIs(self.takes(("misses", "screen 2 zoom 0 shift 0", text), nothing), good)
        for text, good in [("lamps 2 end 40 dark", True), ("lamps 2 end 41 dark", False),
                           ("lamps 2 end 0 at 40:1", True), ("lamps 2 end 0 at -41:1", False),
                           (f"lamps 2 end {MANY} dark", False), (f"lamps 2 end 0 at {MANY}:1", False)]:
            self.assertIs(self.takes(("misses", "lamps 2 end 0 dark", text), (0, (), ())), good)

    def test_rounds(self):
        claim = ("misses", "lamps 3 end 2 at 0:1\nlamps 3 end 0 at 0:1 2:2 4:1", "lamps 3 end 2 at 0:1 2:1")
        head = ((0, 1), (2, 2), (4, 1))
        for paper, good in [((2, (head,), ((0, 1),)), True), ((2, (((0, 1), (4, 1)),), ((0, 1),)), False),
                            ((1, (head,), ((0, 1),)), False),
                            ((2, (((0, 2), (2, 1)),), ((0, 1),)), False), ((2, (((0, 1), (2, 1)),), ((0, 1),)), True),
                            ((2, (((0, 2), (2, 1), (3, 1)),), ((0, 1),)), False),
                            ((2, (), ((0, 1),)), False), ((2, (head,), ((0, 1), (4, 1))), False),
                            ((2, (head,), ((-2, 1), (0, 1))), False),
                            ((2, (head, ((1, 1),)), ((0, 1),)), True), ((2, (((1, 1),), head), ((0, 1),)), False),
                            ((2, (head, ((1, 1), (4, 1))), ((0, 1),)), False),
                            ((2, (head + ((5, 1),), ((1, 1),)), ((0, 1),)), False),
                            ((2, (head, ((3, 1),)), ((0, 1),)), False), ((2, (head, ((1, 2),)), ((0, 1),)), False),
                            ((2, (head, ()), ((0, 1),)), False), ((2, (head, head), ((0, 1),)), False),
                            ((-2, (head,), ((0, 1),)), False), ((2, [head], ((0, 1),)), False),
                            ((2, (list(head),), ((0, 1),)), False), ((2, (head,), [(0, 1)]), False),
                            ((2, (head,), ((0, True),)), False), ((2, (head,), ((0, 3),)), False),
                            ((2, (head,), ((0, 1), (0, 1))), False), ((2, (head,), ()), False),
                            ((0, (head,), ()), False), ((2, (head[::-1],), ((0, 1),)), False),
                            ((2, (((0, 2), (2, 2), (4, 2)),), ((0, 1),)), False),
                            ((2, (head,), ((0, 1), (1, 1))), False), ((2, (head,), ((0, 1),), 0), False),
                            ((2, (head,)), False)]:
            self.assertIs(self.takes(claim, paper), good, paper)
        # A head part with far lamps lets other parts be anywhere before its last one.
        self.yes(("misses", "lamps 2 end 0 dark", "lamps 2 end 0 at 0:1"),
                (1, (((0, 1), (MANY, 1)),), ((7, 1), (MANY - 1, 1))))
        self.yes(("misses", "lamps 2 end 0 dark", "lamps 2 end 1 at -40:1 40:1"),
                (1, (((0, 1), (MANY, 1)),), ((7, 1), (MANY - 1, 1))))
        self.yes(("misses", "lamps 2 end 0 at 1:1", "lamps 2 end 0 at 0:1"), (MANY, (((1, 1),),), ((-MANY, 1),)))

    def test_rounds_without_ends(self):
        claim = ("misses", "lamps 3 end 0 at 0:1 2:2\nlamps 3 end 0 at 1:1 2:1", "lamps 3 end 0 at 0:1")
        first, second = ((0, 1), (2, 2)), ((1, 1), (2, 1))
        for paper, good in [((0, (first, second), ()), True), ((0, (second, first), ()), False),
                            ((0, (first,), ()), False), ((0, (first, second), ((0, 1),)), False),
                            ((0, (((0, 1), (1, 1)), second), ()), False), ((0, (((0, 2), (2, 1)), second), ()), False),
                            ((0, (first, second, ((2, 1),)), ()), False),
                            ((0, (first, second, ((3, 1),)), ()), True),
                            ((0, (first, second, ((-5, 1), (7, 2)),), ()), False),
                            ((0, (((-5, 1), (7, 2)), first, second), ()), True),
                            ((0, (first, second, ((MANY, 1),)), ()), True), ((0, (first, second, ()), ()), False),
                            ((0, (first, second), None), False), ((0, (first, second, second), ()), False),
                            ((False, (first, second), ()), False),
                            ((0, (((0, 1),), ((1, 1),), ((2, 1),)), ()), False)]:
            self.assertIs(self.takes(claim, paper), good, paper)

    def test_moves(self):
        claim = ("misses", "areas 2 0 1\nareas 0 3 1", "areas 0 0 1")
        for paper, good in [(((2, 0, 1), (0, 3, 1), 6), True), (((2, 0, 1), (0, 3, 1), 3), True),
                            (((2, 0, 1), (0, 3, 1), 2), True), (((2, 0, 0), (0, 3, 0), 1), False),
                            (((2, 0, 1), (0, 3, 1), 12), False), (((2, 0, 1), (0, 3, 1), 4), False),
                            (((2, 0, 1), (0, 3, 1), 0), False),
                            (((2, 0, 7), (0, 3, 1), 6), False), (((2, 0, 1), (0, 3, 7), 6), False),
                            (((2, 0, 1), (0, 3, -5), 6), False), (((2, 3, 1), (0, 3, 1), 6), False),
                            (((2, -3, 1), (0, 3, 1), 6), False), (((-2, 0, 1), (0, 3, 1), 6), False),
                            (((2, 0, 1), (0, -3, 1), 6), False), (((2, 0, 1), (), 6), False),
                            (((), (0, 3, 1), 6), False), (((2, 0, 1), (0, 3, 1), -6), False),
                            (((2, 0, 1), (1, 3, 1), 6), False), (((2, 0, 1), (0, 3, 1)), False),
                            (((2, 0, 1), (0, 3, 1), 6, 0), False), ([(2, 0, 1), (0, 3, 1), 6], False),
                            (([2, 0, 1], (0, 3, 1), 6), False), (((2, 0, 1), [0, 3, 1], 6), False),
                            (((2, 0, True), (0, 3, 1), 6), False), (((2, False, 1), (0, 3, 1), 6), False),
                            (((2, 0, 1), (0, 3, 1), None), False),
                            (((1, 0, 0), (0, 1, 0), 1), False), (((1, 0, 2), (0, 3, 1), 3), True),
                            (((2, 0), (0, 3, 1), 6), False)]:
            self.assertIs(self.takes(claim, paper), good, paper)
        self.yes(("misses", "areas 2 1 5", "areas 2 1 6"), ((2, 1, 5), (), 0))
        self.yes(("misses", "areas 2 1 5", "areas 2 1 6"), ((2, 1, 1), (), 4))
        self.yes(("misses", "areas 0 1 5", "areas 0 1 6"), ((), (0, 1, 5), 0))
        self.yes(("misses", "areas 0 -1 5", "areas 0 1 6"), ((), (0, 1, -5), 0))
        self.yes(("misses", "areas 0 0 0", "areas 1 0 0"), ((), (), 0))
        for paper in (((0, 0, 0), (), 0), ((), (0, 0, 0), 0), ((0, 0, 0), (0, 0, 0), 0), ((0, 1, 0), (), 0),
                ((), (0, 0, 0), 1)):
            self.no(("misses", "areas 0 0 0", "areas 1 0 0"), paper)
        self.yes(("misses", "areas 0 0 6", f"areas 0 0 {MANY}"), ((), (), 6))


class TestWorld(CheckerCase):
    def test_texts_name_the_world(self):
        for world in WORLDS:
            self.assertEqual(world_of(still(world)), world)
            self.no(("misses", STILL[world], STILL[world]), form(lot_of((still(world),))))


if __name__ == "__main__":
    unittest.main()
