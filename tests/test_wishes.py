"""Wishes for lots, and whether they hold; errors and their order."""

import random
import unittest

from helpers import Case, ODD, check_defined
from pressworlds import wishes
from pressworlds.errors import InvalidWish, NotALot
from pressworlds.moves import Move
from pressworlds.pointlots import PointLot
from pressworlds.points import Point
from pressworlds.rounds import Round
from pressworlds.rowlots import RowLot
from pressworlds.rows import Row
from pressworlds.slidelots import SlideLot
from pressworlds.slides import Slide
from pressworlds.views import View
from pressworlds.wishes import holds
from pressworlds.worlds import cosets, lot_of, makes, world_of
from samples import GREAT, MANY, NOT_SMALL, STILL, WORLDS, random_change, random_lot, still

TILES = PointLot((Point((2, 4)), Point((0, 3))))
BOTH = lot_of((Move(1, 0, 0), Move(0, 1, 0)))
WORDS = ("makes", "misses", "within")
NO_WISHES = ODD + [
    ("makes",), ("makes", "ruler + 1", "ruler + 1"), ["makes", "ruler + 1"], ("cosets",), ("cosets", 1, 1),
    ["cosets", 1],
    ("cosets", True), ("cosets", False), ("cosets", "1"), ("cosets", None), ("cosets", (1,)), ("cosets", [1]),
    ("makes", 1), ("makes", None), ("makes", Slide(1, 1)), ("misses", True), ("misses", ("ruler + 1",)),
    ("misses", b"ruler + 1"),
    ("within", SlideLot((Slide(1, 1),))), ("within", ["ruler + 1"]), ("within", 0), ("Makes", "ruler + 1"),
    ("make", "ruler + 1"),
    ("", "ruler + 1"), (None, "ruler + 1"), (1, 1), (True, "ruler + 1"), (("makes",), "ruler + 1"),
    (["makes"], "ruler + 1"),
    ({}, {}), ("coset", 1), ("cosets ", 1), ("same", "ruler + 1"), ("put", "ruler + 1"), (b"makes", "ruler + 1"),
    "makes",
    ("makes", ("makes", "ruler + 1"))]


class TestWishes(Case):
    def held(self, lot, *wish):
        """Return whether a wish holds, asked by position and by name."""
        found = self.same_by_name(holds, lot, wish)
        self.assertIs(found.__class__, bool)
        return found

    def test_interface(self):
        check_defined(self, wishes, {"holds": "lot wish"}, {})

    def test_made_and_missed(self):
        rng = random.Random(1)
        seen = {True: 0, False: 0}
        for world in WORLDS * 2:
            for _ in range(6):
                lot = random_lot(rng, world, 3)
                for change in [random_change(rng, world, 4) for _ in range(4)] + list(lot.changes) + [still(world)]:
                    made = makes(lot, change)
                    seen[made] += 1
                    self.assertIs(self.held(lot, "makes", str(change)), made)
                    self.assertIs(self.held(lot, "misses", str(change)), not made)
        self.assertGreater(min(seen.values()), 100)

    def test_texts_of_no_change(self):
        for world in WORLDS:
            lot = random_lot(random.Random(world), world, 3)
            good = str(lot.changes[0])
            for text in ["", " ", "\n", "x", good + " ", " " + good, good + "\n", good + "\n" + good, good.upper(),
                         good + "0x",
                         good.replace(" ", "  "), "rows 2 aA", "ruler + 01", "screen 2 zoom 0 shift 2/4", "areas 1 1",
                         world]:
                for word in ("makes", "misses"):
                    self.assertIs(self.held(lot, word, text), False, (lot.text, text))

    def test_texts_of_other_worlds(self):
        for world in WORLDS:
            lot = random_lot(random.Random(world), world, 3)
            for other in WORLDS:
                self.assertIs(self.held(lot, "makes", STILL[other]), other == world)
                self.assertIs(self.held(lot, "misses", STILL[other]), False)

    def test_changes_that_are_not_near(self):
        near = [(Row(1, "a" * 200), Row(1, "a" * 201)), (Row(2, "ab" * 100), Row(2, "b" * 201)),
                (Row(2, "ab" * 100), Row(2, "a" * 400)),
                (View(2, 8, (0, 1)), View(2, 9, (0, 1))), (View(2, -8, (0, 1)), View(2, -9, (0, 1))),
                (View(3, 0, (1000, 1)), View(3, 0, (1001, 1))), (View(3, 0, (-1000, 1)), View(3, 0, (-3001, 3))),
                (View(5, 0, (1, 5 ** 8)), View(5, 0, (1, 5 ** 9))), (View(4, 0, (1, 4 ** 8)), View(4, 0, (1, 2 ** 17))),
                (Round(2, ((40, 1),), 0), Round(2, ((41, 1),), 0)),
                (Round(3, ((-40, 1),), 0), Round(3, ((-41, 1),), 0)),
                (Round(5, (), 40), Round(5, (), 41)), (Round(7, (), -40), Round(7, (), -41)),
                (Round(2, (), 0), Round(2, ((MANY, 1),), MANY))]
        for good, far in near:
            lots = [lot_of((still(world_of(far)),)),
                    lot_of(tuple(random_change(random.Random(3), world_of(far), 3) for _ in range(3)))]
            if world_of(far) == "rows 2":
                lots.append(RowLot((Row(2, "a"), Row(2, "b"))))
            for lot in lots:
                self.assertIs(self.held(lot, "makes", str(good)), makes(lot, good))
                self.assertIs(self.held(lot, "misses", str(good)), not makes(lot, good))
                self.assertIs(self.held(lot, "makes", str(far)), False)
                self.assertIs(self.held(lot, "misses", str(far)), False)

    def test_changes_of_worlds_without_near_ones(self):
        for lot, change, made in [(SlideLot((Slide(1, 2),)), Slide(1, 2 * MANY), True),
                                  (SlideLot((Slide(1, 2),)), Slide(1, MANY), False),
                                  (TILES, Point((2 * MANY, 4 * MANY + 3)), True), (TILES, Point((MANY, 0)), False),
                                  (BOTH, Move(MANY, -MANY, 1), True)]:
            self.assertIs(self.held(lot, "makes", str(change)), made)
            self.assertIs(self.held(lot, "misses", str(change)), not made)

    def test_cosets(self):
        rng = random.Random(2)
        for world in WORLDS * 2:
            for _ in range(5):
                lot = random_lot(rng, world, 3)
                many = cosets(lot)
                if many is None:
                    for goal in (0, 1, MANY, -1, 10 ** 99):
                        self.assertIs(self.held(lot, "cosets", goal), False)
                else:
                    for goal in (many - 1, many, many + 1, 0, -many, MANY + many):
                        self.assertIs(self.held(lot, "cosets", goal), goal >= many)
        self.assertIs(self.held(TILES, "cosets", 5), False)
        self.assertIs(self.held(TILES, "cosets", 6), True)
        self.assertIs(self.held(TILES, "cosets", 7), True)
        self.assertIs(self.held(SlideLot((Slide(1, GREAT),)), "cosets", 2 * GREAT - 1), False)
        self.assertIs(self.held(SlideLot((Slide(1, GREAT),)), "cosets", 2 * GREAT), True)

    def test_within(self):
        rng = random.Random(3)
        seen = {True: 0, False: 0}
        for world in WORLDS * 2:
            for _ in range(8):
                lot = random_lot(rng, world, 2)
                other = random_lot(rng, world, 2) if rng.random() < 0.6 else lot_of((lot.changes + random_lot(rng,
                        world, 2).changes)[:5])
                inside = all(makes(other, told) for told in lot.changes)
                seen[inside] += 1
                self.assertIs(self.held(lot, "within", other.text), inside)
                self.assertIs(self.held(lot, "within", lot.text), True)
        self.assertGreater(min(seen.values()), 60)

    def test_texts_of_no_lot_or_of_another_world(self):
        for world in WORLDS:
            lot = lot_of((still(world),))
            for other in WORLDS:
                self.assertIs(self.held(lot, "within", STILL[other]), other == world)
            good = STILL[world]
            for text in ["", "x", good + "\n", "\n" + good, good + " ", good + "\n\n" + good, "\n".join([good] * 6),
                    good + "\nx"]:
                self.assertIs(self.held(lot, "within", text), False)
            self.assertIs(self.held(lot, "within", "\n".join([good] * 5)), True)
        for world, changes in NOT_SMALL.items():
            for change in changes:
                self.assertIs(self.held(lot_of((still(world),)), "within", str(change)), False)
                self.assertIs(self.held(lot_of((still(world),)), "within", STILL[world] + "\n" + str(change)), False)


class TestErrors(Case):
    def test_no_lot(self):
        for value in ODD + [Move(1, 0, 0), (Move(1, 0, 0),), BOTH.text, RowLot]:
            for wish in (("cosets", 1), ("makes", "areas 1 0 0"), None, []):
                self.fails(NotALot, value, holds, value, wish)
                self.fails(NotALot, value, holds, wish=wish, lot=value)

    def test_no_wish(self):
        for lot in (BOTH, TILES, SlideLot((Slide(1, 1),))):
            for value in NO_WISHES:
                self.fails(InvalidWish, value, holds, lot, value)
                self.fails(InvalidWish, value, holds, wish=value, lot=lot)

    def test_any_string_makes_a_wish(self):
        for word in WORDS:
            for text in ("", "\n", "x" * 4000, "makes", "0", "{}", "~ ~"):
                self.assertIs(holds(BOTH, (word, text)), False)


if __name__ == "__main__":
    unittest.main()
