"""The checker: claims and papers that are right, nearly right, and of any kind."""

import itertools
import random
import unittest

from helpers import Case, ODD, check_defined, random_word
from pressworlds import checker
from pressworlds.checker import accepts
from pressworlds.leads import Lead, lost_row
from pressworlds.moves import Move
from pressworlds.rounds import Round
from pressworlds.rows import Row
from pressworlds.slides import Slide
from pressworlds.worlds import doing, form, lot_of, makes, often, plan_of, read_lot, then, undone, world_of
from samples import GREAT, MANY, SIX, STILL, WORLDS, done, letter_changes, random_change, random_lead, random_lot, still

SIXES = lot_of((Slide(1, 6), Slide(-1, 1)))
BOTH = lot_of((Move(1, 0, 0), Move(0, 1, 0)))
WORDS = ["makes", "misses", "same", "alike", "root", "lost"]


class CheckerCase(Case):
    def takes(self, claim, paper):
        """Return what the checker says, asked by position and by name."""
        found = self.same_by_name(accepts, claim, paper)
        self.assertIs(found.__class__, bool)
        return found

    def yes(self, claim, paper):
        self.assertIs(self.takes(claim, paper), True, (claim, paper))

    def no(self, claim, paper):
        self.assertIs(self.takes(claim, paper), False, (claim, paper))


def nearly(value):
    """Return values that are nearly this tuple of tuples, integers and texts, but of another form."""
    if not isinstance(value, tuple):
        return [None, [value], (value,), str(value) + " ", True]
    found = [list(value), (value,), value + (0,), value + ((),), value + (None,)]
    for at, part in enumerate(value):
        found.append(value[:at] + value[at + 1:])
        found += [value[:at] + (other,) + value[at + 1:] for other in nearly(part)]
    return found


class TestAnything(CheckerCase):
    def test_interface(self):
        check_defined(self, checker, {"accepts": "claim paper"}, {})

    def test_values_of_any_kind(self):
        values = ODD + [SIXES, Slide(1, 1), "ruler + 2", ("ruler + 1",), Lead, accepts]
        for value in values:
            for other in values:
                self.no(value, other)
                for word in WORDS:
                    self.no((word,), other)
                    self.no((word, value), other)
                    self.no((word, value, "ruler + 1"), other)
                    self.no((word, "ruler + 1", value), None if value == 1 else value)
                    self.no((word, "ruler + 1", "ruler + 1", value), other)

    def test_claims_that_are_nearly_right(self):
        cases = [(("makes", "ruler + 1", "ruler + 2"), ((0, 2),)), (("misses", "ruler + 2", "ruler + 1"), (2, ())),
                 (("same", "ruler + 1", "ruler + 1"), ((((0, 1),),), (((0, 1),),))),
                 (("alike", "ruler - 1", "ruler - 3"), "ruler + 1"),
                 (("root", "ruler + 4", 2), "ruler + 2"), (("lost", "ruler + 0"), "rows 1 a")]
        for claim, paper in cases:
            self.yes(claim, paper)
            for other in WORDS:
                if other != claim[0]:
                    self.no((other,) + claim[1:], paper)
            for wrong in [list(claim), claim + (0,), claim[:-1], claim[1:], claim[::-1], (claim,), claim + ("",),
                          str(claim),
                          (claim[0].upper(),) + claim[1:], ((claim[0],),) + claim[1:], (claim[0] + " ",) + claim[1:]]:
                self.no(wrong, paper)
            for at in range(1, len(claim)):
                for wrong in ODD + ["ruler + 01", "ruler  + 1", "ruler + 1 ", " ruler + 1", "rows 2 aA", "areas 1 1",
                        "\n", Slide(1, 1)]:
                    if wrong != claim[at]:
                        self.no(claim[:at] + (wrong,) + claim[at + 1:], paper)
            for wrong in ODD + nearly(paper):
                # By the turn 0 and the step 2 the slide 1 is missed as well.
                if wrong not in (paper, (2, (0,))):
                    self.no(claim, wrong)


class TestMakes(CheckerCase):
    def test_against_what_plans_do(self):
        rng = random.Random(1)
        for world in WORLDS:
            for _ in range(6):
                lot = random_lot(rng, world, 3)
                plan = tuple((rng.randrange(len(lot)), rng.choice([-1, 1, 2])) for _ in range(3))
                plan = rng.choice([plan, ((plan, 1),), ((plan, -1), plan[0])])
                change = doing(lot, plan)
                self.yes(("makes", lot.text, str(change)), plan)
                for other in [random_change(rng, world, 3) for _ in range(3)]:
                    self.assertIs(self.takes(("makes", lot.text, str(other)), plan), other == change)
                    self.assertIs(self.takes(("makes", lot.text, str(other)), ()), other == still(world))

    def test_changes_that_are_not_near(self):
        for lot, plan in [("rows 2 ab\nrows 2 b", ((0, 200),)), ("screen 2 zoom 1 shift 1", ((0, 400),)),
                          ("lamps 2 end 1 at 0:1", ((0, 400),)), ("lamps 3 end 5 dark", ((0, MANY),)),
                          ("ruler + 7", ((0, MANY),)),
                          ("areas 1 2 3", ((0, MANY),)), ("grid 2 1 1", ((0, -MANY),))]:
            made = str(doing(read_lot(lot), plan))
            self.yes(("makes", lot, made), plan)
            self.no(("makes", lot, made), plan + ((0, 1),))

    def test_plans_that_grow_too_great_on_the_way(self):
        for lot, times in [("rows 2 ab", 201), ("screen 2 zoom 4 shift 0", 101), ("lamps 2 end 1 at 0:1", 401),
                           ("rows 1 a", MANY),
                           ("screen 3 zoom -1 shift 1/3", MANY), ("lamps 7 end -3 at 0:1", MANY)]:
            told = lot.split("\n")[0]
            nothing = STILL[world_of(read_lot(lot).changes[0])]
            for plan in [((0, times), (0, -times)), ((0, times), (0, 1 - times)), ((((0, times), (0, -times)), 1),),
                         ((0, 1), (0, times), (0, -times))]:
                self.no(("makes", lot, nothing), plan)
                self.no(("makes", lot, told), plan)
            half = times // 2
            self.assertIs(self.takes(("makes", lot, nothing), ((0, half), (0, -half))), times != MANY)

    def test_texts_of_two_worlds(self):
        for world, other in itertools.permutations(WORLDS, 2):
            self.no(("makes", STILL[world], STILL[other]), ())
            self.no(("same", STILL[world], STILL[other]), (((),), ((),)))
            self.no(("same", STILL[world], STILL[other]), ((), ()))
        for world in WORLDS:
            self.yes(("makes", STILL[world], STILL[world]), ())

    def test_plans_five_and_six_deep(self):
        plan = ((0, 1),)
        for deep in range(2, 9):
            plan = ((plan, 1),)
            self.assertIs(self.takes(("makes", "ruler + 1", "ruler + 1"), plan), deep <= 5)
        for wrong in (((0, 0),), ((1, 1),), ((0, True),), ((False, 1),), [(0, 1)], ([0, 1],), ((0, 1, 1),), (0, 1),
                ((0, "1"),)):
            self.no(("makes", "ruler + 1", "ruler + 1"), wrong)


class TestSame(CheckerCase):
    def test_lots_told_otherwise(self):
        rng = random.Random(2)
        for world in WORLDS:
            for _ in range(4):
                lot = lot_of(random_lot(rng, world, 2).changes[:4])
                told = list(lot.changes) + [lot.changes[0]]
                told[0] = undone(told[0])
                other = lot_of(tuple(reversed(told)))
                paper = (tuple(plan_of(lot, change) for change in other.changes),
                        tuple(plan_of(other, change) for change in lot.changes))
                self.yes(("same", lot.text, other.text), paper)
                self.yes(("same", other.text, lot.text), paper[::-1])
                for wrong in [paper + ((),), paper[:1], (paper,), list(paper), (list(paper[0]), paper[1]),
                              (paper[0], list(paper[1])),
                              (paper[0][:-1], paper[1]), (paper[0], paper[1][:-1]), (paper[0] + ((),), paper[1]),
                              (paper[0], paper[1] + ((),)),
                              ((), ()), (None, None), (paper[0], None), (None, paper[1])]:
                    self.no(("same", lot.text, other.text), wrong)

    def test_plans_of_the_wrong_lot_or_out_of_order(self):
        claim = ("same", "ruler + 2\nruler - 1", "ruler - 1\nruler - 3")
        right = ((((1, 1),), ((0, 1), (1, 1))), (((1, 1), (0, 1)), ((0, 1),)))
        self.yes(claim, right)
        self.no(claim, right[::-1])
        self.no(claim, (right[0][::-1], right[1]))
        self.no(claim, (right[0], right[1][::-1]))
        self.no(("same", claim[2], claim[1]), right)
        self.no(("same", "ruler + 2\nruler - 1", "ruler + 4\nruler - 1"),
                ((((0, 2),), ((1, 1),)), (((0, 1),), ((1, 1),))))


class TestAlike(CheckerCase):
    def test_against_what_is_moved(self):
        rng = random.Random(3)
        for world in WORLDS:
            for _ in range(12):
                one, ahead, other = (random_change(rng, world, 2) for _ in range(3))
                moved = then(then(ahead, one), undone(ahead))
                self.yes(("alike", str(one), str(moved)), str(ahead))
                self.assertIs(self.takes(("alike", str(moved), str(one)), str(ahead)),
                        then(ahead, moved) == then(one, ahead))
                self.assertIs(self.takes(("alike", str(one), str(other)), str(ahead)), moved == other)
                self.yes(("alike", str(one), str(one)), STILL[world])

    def test_too_great_on_the_way(self):
        long = Row(2, "b" * 390)
        self.yes(("alike", "rows 2 " + "b" * 300, "rows 2 " + "b" * 300), str(long))
        self.yes(("alike", "rows 2 " + "a" * 180, "rows 2 " + "b" * 110 + "a" * 180 + "B" * 110),
                "rows 2 " + "b" * 110 + "a" * 100)
        self.yes(("alike", "rows 2 " + "ab" * 200, "rows 2 " + "ba" * 200), "rows 2 " + "ba" * 199 + "b")
        self.yes(("alike", "screen 2 zoom 300 shift 0", "screen 2 zoom 300 shift 0"), "screen 2 zoom 200 shift 0")
        self.no(("alike", "screen 2 zoom 300 shift 0", "screen 2 zoom 300 shift 1"), "screen 2 zoom 200 shift 0")
        self.yes(("alike", "screen 3 zoom -400 shift 1", "screen 3 zoom -400 shift 1"), "screen 3 zoom -400 shift 1")
        lit = Round(2, tuple((place, 1) for place in range(0, 600, 2)), 0)
        moved = Round(2, tuple((place + 1, 1) for place in range(0, 600, 2)), 0)
        ahead = Round(2, tuple((place, 1) for place in range(0, 600, 3)), 1)
        self.yes(("alike", str(lit), str(moved)), str(ahead))
        self.no(("alike", str(lit), str(lit)), str(ahead))
        self.yes(("alike", "lamps 2 end 0 at 0:1", f"lamps 2 end 0 at {MANY}:1"), f"lamps 2 end {MANY} dark")

    def test_texts_of_two_worlds(self):
        for world, other in itertools.permutations(WORLDS, 2):
            self.no(("alike", STILL[world], STILL[other]), STILL[world])
            self.no(("alike", STILL[world], STILL[world]), STILL[other])
            self.no(("root", STILL[world], 1), STILL[other])

    def test_great_numbers(self):
        self.yes(("alike", "ruler + 5", "ruler + -5"), f"ruler - {MANY}")
        self.yes(("alike", f"areas {MANY} 0 0", f"areas {MANY} 0 {MANY * MANY}"), f"areas 0 -{MANY} 7")
        self.yes(("alike", f"ruler - {MANY}", f"ruler - {3 * MANY}"), f"ruler + {MANY}")


class TestRoots(CheckerCase):
    def test_against_what_is_done_often(self):
        rng = random.Random(4)
        for world in WORLDS:
            for _ in range(8):
                root, other = random_change(rng, world, 3), random_change(rng, world, 3)
                for degree in (1, 2, 3, 5):
                    one = often(root, degree)
                    self.yes(("root", str(one), degree), str(root))
                    self.assertIs(self.takes(("root", str(one), degree), str(other)), often(other, degree) == one)
                    self.assertIs(self.takes(("root", str(one), degree + 1), str(root)), one == then(one, root))

    def test_degrees(self):
        for degree in (0, -1, -3, True, False, None, "1", "3", (1,), [1], 10 ** 40 * 0):
            for world in WORLDS:
                self.no(("root", STILL[world], degree), STILL[world])
        for world in WORLDS:
            for degree in (1, 2, MANY, 10 ** 99):
                self.yes(("root", STILL[world], degree), STILL[world])
        self.yes(("root", f"ruler + {MANY * MANY}", MANY), f"ruler + {MANY}")
        self.no(("root", f"ruler + {MANY * MANY + 1}", MANY), f"ruler + {MANY}")
        self.yes(("root", "ruler - 4", MANY), "ruler - 4")
        self.no(("root", "ruler - 4", MANY + 1), "ruler - 4")
        self.yes(("root", f"lamps 2 end {MANY * MANY} dark", MANY), f"lamps 2 end {MANY} dark")

    def test_too_great_when_done_so_often(self):
        for text, root in [("rows 2 ab", "rows 2 ab"), ("screen 2 zoom 1 shift 0", "screen 2 zoom 1 shift 0"),
                           ("lamps 2 end 1 at 0:1", "lamps 2 end 1 at 0:1")]:
            for degree in (401, MANY):
                self.no(("root", text, degree), root)
            self.yes(("root", text, 1), root)


class TestLost(CheckerCase):
    def test_against_what_is_led(self):
        rng = random.Random(5)
        for world in WORLDS:
            for _ in range(10):
                lead = random_lead(rng, world, 1)
                word = random_word(rng, len(lead), rng.randint(0, 4))
                lost = word != "" and done(world, letter_changes(lead, word)) == still(world)
                self.assertIs(self.takes(("lost", lead.text), f"rows {len(lead)} {word or '-'}"), lost)
                row = lost_row(lead)
                if row is not None:
                    self.yes(("lost", lead.text), str(row))
                    for letters in {1, 2, 3, 4} - {len(lead)}:
                        self.no(("lost", lead.text), f"rows {letters} {row.word}")

    def test_edges(self):
        for text, row, lost in [("ruler - 1", "rows 1 aa", True), ("ruler - 1", "rows 1 aaa", False),
                                ("ruler - 1", "rows 1 -", False),
                                ("ruler - 1", "rows 1 aA", False), ("ruler - 1", "ruler + 0", False),
                                ("ruler - 1\nareas 0 0 0", "rows 2 aa", False),
                                ("screen 2 zoom 4 shift 0\nscreen 2 zoom -4 shift 0",
                                    "rows 2 " + "a" * 150 + "b" * 150, True),
                                ("rows 2 aaaaaaa", "rows 1 a", False),
                                ("rows 2 aaaaaa\nrows 2 aa", "rows 2 abbb", False),
                                ("rows 2 aaaaaa\nrows 2 aa", "rows 2 aBBB", True),
                                ("\n".join(["ruler + 0"] * 5), "rows 4 a", False),
                                ("\n".join(["ruler + 0"] * 4), "rows 4 d", True),
                                (f"ruler + {GREAT + 1}", "rows 1 -", False)]:
            self.assertIs(self.takes(("lost", text), row), lost, (text, row))

    def test_no_text(self):
        for value in ODD + [Lead((Slide(1, 0),)), Row(1, "a"), ["rows 1 a"], ("rows 1 a",)]:
            self.no(("lost", value), "rows 1 a")
            self.no(("lost", "ruler + 0"), value)


class TestTruth(CheckerCase):
    """What is accepted holds, whatever the claim; here with papers of other claims."""

    def test_papers_of_other_lots(self):
        rng = random.Random(6)
        taken = 0
        for world in SIX:
            lots = [random_lot(rng, world, 2) for _ in range(12)]
            changes = [random_change(rng, world, 3) for _ in range(4)]
            for lot, giver in itertools.product(lots, lots):
                for change in changes:
                    found = self.takes(("misses", lot.text, str(change)), form(giver))
                    taken += found
                    self.assertFalse(found and makes(lot, change))
                    plan = plan_of(giver, change)
                    if plan is not None:
                        self.assertFalse(self.takes(("makes", lot.text, str(change)), plan) and not makes(lot, change))
                        self.no(("misses", lot.text, str(change)), plan if plan else None)
        self.assertGreater(taken, 200)


if __name__ == "__main__":
    unittest.main()
