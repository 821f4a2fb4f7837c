"""Certificates: claims and papers of all kinds, in all worlds, which the checker accepts; errors and their order."""

import random
import unittest

from helpers import Case, ODD, check_defined, random_word, retold
from pressworlds import certificates
from pressworlds.certificates import certify_alike, certify_lost, certify_made, certify_root, certify_same
from pressworlds.checker import accepts
from pressworlds.errors import (InvalidChanges, InvalidNumber, NotAChange, NotALead, NotALot, OtherWorld, TooFar,
        TooGreat)
from pressworlds.leads import Lead, is_lost, keeps_apart
from pressworlds.moves import Move
from pressworlds.points import Point
from pressworlds.rounds import Round
from pressworlds.rows import Row
from pressworlds.slides import Slide
from pressworlds.views import View
from pressworlds.worlds import doing, form, lot_of, makes, often, read_change, then, undone
from samples import GREAT, MANY, SIX, STILL, WORLDS, random_change, random_lead, random_lot, still

FUNCTIONS = {"certify_made": "lot change", "certify_same": "lot other_lot", "certify_alike": "one other",
             "certify_root": "one degree", "certify_lost": "lead"}
BOTH = lot_of((Move(1, 0, 0), Move(0, 1, 0)))


def is_small(change):
    """Return whether a lot can be made of a change."""
    try:
        return bool(lot_of((change,)))
    except InvalidChanges:
        return False


class TestCertificates(Case):
    def taken(self, pair, claim):
        """Check a pair of a claim, which it has to be, and a paper, and return the paper."""
        self.assertIs(pair.__class__, tuple)
        self.assertEqual(len(pair), 2)
        self.assertEqual(pair[0], claim)
        self.assertIs(accepts(*pair), True)
        return pair[1]

    def test_interface(self):
        check_defined(self, certificates, FUNCTIONS, {})

    def test_made_and_missed(self):
        rng = random.Random(1)
        seen = {True: 0, False: 0}
        for world in WORLDS * 2:
            for _ in range(8):
                lot = random_lot(rng, world, 3)
                for change in [random_change(rng, world, 4) for _ in range(3)] + [rng.choice(lot.changes),
                        still(world)]:
                    made = makes(lot, change)
                    seen[made] += 1
                    pair = self.same_by_name(certify_made, lot, change)
                    paper = self.taken(pair, ("makes" if made else "misses", lot.text, str(change)))
                    if made:
                        self.assertEqual(doing(lot, paper), change)
                    else:
                        self.assertEqual(paper, form(lot))
                    # A paper of the one kind is none of the other one.
                    self.assertIs(accepts(("misses" if made else "makes",) + pair[0][1:], paper), False)
        self.assertGreater(min(seen.values()), 200)

    def test_far_and_near(self):
        rows, views, rounds = lot_of((Row(2, "ab"),)), lot_of((View(2, 1, (0, 1)),)), lot_of((Round(2, ((0, 1),), 1),))
        for lot, near, far in [(rows, Row(2, "ab" * 100), Row(2, "ab" * 101)),
                               (rows, Row(2, "ba" * 100), Row(2, "ba" * 101)),
                               (views, View(2, 8, (0, 1)), View(2, 9, (0, 1))),
                               (views, View(2, 0, (1000, 1)), View(2, 0, (1001, 1))),
                               (rounds, Round(2, (), 40), Round(2, (), 41)),
                               (rounds, Round(2, ((40, 1),), 0), Round(2, ((41, 1),), 0)),
                               (rounds, Round(2, (), 1), Round(2, (), MANY))]:
            self.taken(certify_made(lot, near), ("makes" if makes(lot, near) else "misses", lot.text, str(near)))
            self.fails(TooFar, far, certify_made, lot, far)
            self.fails(TooFar, far, certify_made, change=far, lot=lot)
        for lot, change, made in [(lot_of((Slide(1, 2),)), Slide(1, 2 * MANY), True),
                                  (lot_of((Slide(1, 2),)), Slide(1, MANY), False),
                                  (lot_of((Point((GREAT, 2)),)), Point((MANY * GREAT, 2 * MANY)), True),
                                  (BOTH, Move(MANY, -MANY, MANY), True),
                                  (lot_of((Move(2, 0, 0), Move(0, 2, 0))), Move(2 * MANY, 2, 2), False)]:
            self.taken(certify_made(lot, change), ("makes" if made else "misses", lot.text, str(change)))

    def test_lots_that_make_the_same_and_others(self):
        rng = random.Random(2)
        seen = {True: 0, False: 0}
        for world in WORLDS * 2:
            for _ in range(5):
                lot = random_lot(rng, world, 2)
                other = lot_of(retold(rng, lot.changes, then, undone,
                        is_small)) if rng.random() < 0.6 else random_lot(rng, world, 2)
                same = form(lot) == form(other)
                seen[same] += 1
                pair = self.same_by_name(certify_same, lot, other)
                if not same:
                    self.assertIsNone(pair)
                else:
                    paper = self.taken(pair, ("same", lot.text, other.text))
                    self.assertEqual([doing(lot, plan) for plan in paper[0]], list(other.changes))
                    self.assertEqual([doing(other, plan) for plan in paper[1]], list(lot.changes))
        self.assertGreater(min(seen.values()), 20)

    def test_alike_and_others(self):
        rng = random.Random(3)
        seen = {True: 0, False: 0}
        for world in WORLDS * 2:
            for _ in range(12):
                one, ahead = random_change(rng, world, 3), random_change(rng, world, 3)
                other = then(then(ahead, one), undone(ahead)) if rng.random() < 0.6 else random_change(rng, world, 2)
                pair = self.same_by_name(certify_alike, one, other)
                seen[pair is not None] += 1
                if pair is not None:
                    c = read_change(self.taken(pair, ("alike", str(one), str(other))))
                    self.assertEqual(then(c, one), then(other, c))
                elif then(then(ahead, one), undone(ahead)) == other:
                    self.fail((str(one), str(other)))
        self.assertGreater(min(seen.values()), 60)
        for one, other in [(Slide(1, 5), Slide(1, 6)), (Slide(-1, 5), Slide(-1, 6)), (Point((1,)), Point((2,))),
                           (Row(2, "a"), Row(2, "A")),
                           (View(3, 1, (0, 1)), View(3, 1, (1, 1))), (Move(4, 6, 1), Move(4, 6, 2)),
                           (Round(2, ((0, 1),), 1), Round(2, (), 1))]:
            self.assertIsNone(certify_alike(one, other))

    def test_alike_as_in_the_world(self):
        far = Round(2, ((41, 1),), 0)
        self.fails(TooFar, far, certify_alike, far, Round(2, ((0, 1),), 0))
        self.fails(TooFar, far, certify_alike, Round(2, ((0, 1),), 0), far)
        one, other = View(2, 0, (2 ** 300, 1)), View(2, 0, (1, 2 ** 101))
        self.fails(TooGreat, -401, certify_alike, one, other)
        self.taken(certify_alike(View(2, 0, (2 ** 299, 1)), other),
                ("alike", f"screen 2 zoom 0 shift {2 ** 299}", str(other)))
        one, other = Row(2, "a" * 199 + "b" * 3 + "A" * 198), Row(2, "a" * 3 + "b" * 3)
        self.assertIsNone(certify_alike(one, other))
        other = Row(2, "B" * 198 + "a" + "b" * 3 + "b" * 198)
        self.taken(certify_alike(one, other), ("alike", str(one), str(other)))

    def test_roots_that_there_are_and_are_none(self):
        rng = random.Random(4)
        seen = {True: 0, False: 0}
        for world in WORLDS:
            for _ in range(10):
                root, degree = random_change(rng, world, 3), rng.choice([1, 2, 3, 4, 7])
                for one in (often(root, degree), root):
                    pair = self.same_by_name(certify_root, one, degree)
                    seen[pair is not None] += 1
                    if pair is not None:
                        paper = self.taken(pair, ("root", str(one), degree))
                        self.assertEqual(often(read_change(paper), degree), one)
                    else:
                        self.assertNotEqual(often(root, degree), one)
        self.assertGreater(min(seen.values()), 60)
        for world in WORLDS:
            self.assertEqual(certify_root(still(world), MANY), (("root", STILL[world], MANY), STILL[world]))
        self.assertIsNone(certify_root(Slide(1, 5), 3))
        self.assertIsNone(certify_root(Slide(-1, 5), MANY + 1))
        self.taken(certify_root(Slide(-1, 5), MANY), ("root", "ruler - 5", MANY))
        self.fails(TooGreat, 1001, certify_root, Round(2, ((0, 1), (1001, 1)), 2), 2)
        self.taken(certify_root(Round(2, ((0, 1), (400, 1)), 2), 2), ("root", "lamps 2 end 2 at 0:1 400:1", 2))
        self.assertIsNone(certify_root(Round(2, ((0, 1), (400, 1), (1001, 1)), 2), 2))

    def test_lost_rows_and_leads_that_keep_apart(self):
        rng = random.Random(5)
        seen = {True: 0, False: 0}
        for world in ["rows 2", "rows 3", "rows 4"] * 3 + WORLDS * 2:
            for _ in range(4):
                lead = random_lead(rng, world, 3)
                pair = self.same_by_name(certify_lost, lead)
                seen[pair is None] += 1
                self.assertIs(pair is None, keeps_apart(lead))
                if pair is not None:
                    row = read_change(self.taken(pair, ("lost", lead.text)))
                    self.assertIs(is_lost(lead, row), True)
        self.assertGreater(min(seen.values()), 20)


class TestErrors(Case):
    def test_no_lot(self):
        for value in ODD + [Move(1, 0, 0), (Move(1, 0, 0),), BOTH.text, Lead((Move(1, 0, 0),))]:
            self.fails(NotALot, value, certify_made, value, Move(1, 0, 0))
            self.fails(NotALot, value, certify_made, value, None)
            self.fails(NotALot, value, certify_same, value, BOTH)
            self.fails(NotALot, value, certify_same, value, None)
            self.fails(NotALot, value, certify_same, BOTH, value)
            self.fails(NotALot, value, certify_same, other_lot=value, lot=BOTH)

    def test_no_change(self):
        for value in ODD + [BOTH, (Move(1, 0, 0),), "areas 1 0 0", Move]:
            self.fails(NotAChange, value, certify_made, BOTH, value)
            self.fails(NotAChange, value, certify_made, change=value, lot=BOTH)
            for one in (Move(1, 0, 0), Slide(1, 1), View(2, 0, (1, 1))):
                self.fails(NotAChange, value, certify_alike, value, one)
                self.fails(NotAChange, value, certify_alike, value, None)
                self.fails(NotAChange, value, certify_alike, one, value)
                self.fails(NotAChange, value, certify_alike, other=value, one=one)
            self.fails(NotAChange, value, certify_root, value, 2)
            self.fails(NotAChange, value, certify_root, degree=None, one=value)

    def test_other_worlds(self):
        lots = {world: lot_of((still(world),)) for world in WORLDS}
        far = {"rows 2": Row(2, "ab" * 150), "screen 2": View(2, 400, (0, 1)), "lamps 3": Round(3, (), MANY)}
        for world in WORLDS:
            for other in SIX:
                if other != world:
                    change = far.get(other, still(other))
                    self.fails(OtherWorld, change, certify_made, lots[world], change)
                    self.fails(OtherWorld, lots[other], certify_same, lots[world], lots[other])
                    self.fails(OtherWorld, change, certify_alike, still(world), change)
                    self.fails(OtherWorld, change, certify_alike, other=change, one=far.get(world, still(world)))

    def test_no_degree(self):
        for world in WORLDS:
            for value in [0, -1, -MANY, True, False, None, "1", (1,), [1], (), b"1", object()]:
                self.fails(InvalidNumber, value, certify_root, still(world), value)
                self.fails(InvalidNumber, value, certify_root, degree=value,
                        one=random_change(random.Random(1), world, 3))

    def test_no_lead(self):
        for value in ODD + [BOTH, Move(1, 0, 0), (Move(1, 0, 0),), "areas 1 0 0", random_word(random.Random(1), 2, 3)]:
            self.fails(NotALead, value, certify_lost, value)
            self.fails(NotALead, value, certify_lost, lead=value)


if __name__ == "__main__":
    unittest.main()
