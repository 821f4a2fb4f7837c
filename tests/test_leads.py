"""Leads: texts, what rows are led to, what is lost, leads that keep apart, webs led into lots; errors and their order."""

import random
import unittest

from helpers import Case, ODD, check_defined, random_word, words_up_to
from pressworlds import leads
from pressworlds.errors import InvalidChanges, InvalidText, TooGreat
from pressworlds.leads import Lead, is_lost, keeps_apart, led, led_lot, lost_row
from pressworlds.moves import Move
from pressworlds.points import Point
from pressworlds.rounds import Round
from pressworlds.rowlots import RowLot
from pressworlds.rows import Row, row_then, row_undone
from pressworlds.slides import Slide
from pressworlds.views import View
from pressworlds.webs import folded_ties
from pressworlds.worlds import lot_of, often, then, undone
from samples import GREAT, NOT_SMALL, SIX, STILL, WORLDS, done, letter_changes, random_change, random_lead, still

FUNCTIONS = {"led": "lead row", "led_lot": "lead lot", "is_lost": "lead row", "keeps_apart": "lead", "lost_row": "lead",
             "web_into": "lead lot"}
CLASSES = {"Lead": ("changes", "__init__ read changes world text __len__ __eq__")}
UP, RIGHT = Move(0, 1, 0), Move(1, 0, 0)
FAR, FLIP = Slide(1, 5), Slide(-1, 3)
WALKER = Lead((RIGHT, UP))
ROWS = RowLot((Row(2, "ab"),))
SOME = {world: random_change(random.Random(world), world, 3) for world in WORLDS}


class TestLead(Case):
    def test_interface(self):
        check_defined(self, leads, FUNCTIONS, CLASSES)

    def test_properties_and_text(self):
        rng = random.Random(1)
        for world in WORLDS:
            for many in range(1, 5):
                changes = tuple(random_change(rng, world, 4) for _ in range(many))
                text = "\n".join([str(change) for change in changes])
                for lead in (Lead(changes), Lead(changes=changes), Lead.read(text), Lead.read(text=text)):
                    self.assertEqual((lead.changes, lead.world, lead.text, len(lead)), (changes, world, text, many))
                    self.assertEqual([lead.changes.__class__, lead.world.__class__, lead.text.__class__],
                            [tuple, str, str])
                    self.assertIs(bool(lead), True)
                for name in ("changes", "world", "text"):
                    with self.assertRaises(AttributeError):
                        setattr(Lead(changes), name, None)

    def test_equal_exactly_if_the_texts_are(self):
        rng = random.Random(2)
        made = [random_lead(rng, world, 1) for world in SIX for _ in range(8)]
        for one in made:
            for other in made:
                self.assertIs(one == other, one.text == other.text)
                self.assertIs(one != other, one.text != other.text)
            for value in ODD + [one.changes, one.text, one.changes[0], lot_of(one.changes)]:
                self.assertIs(one == value, False)
                self.assertIs(value == one, False)
                self.assertIs(one != value, True)

    def test_no_tuple_and_none(self):
        for value in ODD + [[UP], UP, WALKER, "areas 1 0 0", ROWS]:
            if not isinstance(value, tuple) or not value:
                self.fails(InvalidChanges, None, Lead, value)
                self.fails(InvalidChanges, None, Lead, changes=value)

    def test_wrong_changes(self):
        small_not_led = [Row(2, "ababab" + "a"), Row(2, "ab" * 6)]
        for world, good in SOME.items():
            others = [change for other, change in SOME.items() if other != world]
            wrong = ODD + others + [(good,), [good], str(good), WALKER, ROWS, Move] + NOT_SMALL.get(world, [])
            wrong += small_not_led if world == "rows 2" else []
            for value in wrong:
                for at in range(1, 4):
                    self.fails(InvalidChanges, at, Lead, (good,) * at + (value,))
                    self.fails(InvalidChanges, at, Lead, (good,) * at + (value, None, good, good))
            for value in ODD + [(good,), WALKER, ROWS] + [bad for bads in NOT_SMALL.values() for bad in bads]:
                self.fails(InvalidChanges, 0, Lead, (value, good))
                self.fails(InvalidChanges, 0, Lead, (value,))
            self.fails(InvalidChanges, 4, Lead, (good,) * 5)
            self.fails(InvalidChanges, 4, Lead, (good,) * 4 + (None,))
            self.fails(InvalidChanges, 4, Lead, (good,) * 7)
            self.fails(InvalidChanges, 1, Lead, (good, None) + (good,) * 5)

    def test_just_small(self):
        self.assertEqual(len(Lead((Row(2, "ababab"),))), 1)
        self.fails(InvalidChanges, 0, Lead, (Row(2, "abababa"),))
        for change in (Point((GREAT, -GREAT, 0)), Slide(-1, -GREAT), View(2, 4, (1, 16)), View(3, -4, (-100, 1)),
                       Round(2, ((-24, 1), (24, 1)), 8), Round(7, (), -8), Move(GREAT, -GREAT, GREAT)):
            self.assertEqual(Lead((change,) * 4).changes, (change,) * 4)

    def test_texts_that_are_nearly_one(self):
        wrong = ["", "\n", "areas", "areas 1 0 0\n", "\nareas 1 0 0", "areas 1 0 0\n\nareas 1 0 0",
                 "areas 1 0 0\nruler + 1",
                 "rows 2 a\nrows 3 a", "rows 2 abababa", "rows 2 aA", "grid 1 1\ngrid 2 1 1", "lamps 2 end 9 dark",
                 "screen 2 zoom 0 shift 1\nscreen 3 zoom 0 shift 1", "areas 1 0 0 ", " areas 1 0 0",
                 "areas 1 0 0\r\nareas 1 0 0",
                 f"ruler + {GREAT + 1}", "ruler + 01", "\n".join(["ruler + 1"] * 5), "\n".join(["areas 1 0 0"] * 5)]
        for text in wrong + [value for value in ODD if value != "rows 2 ab"] + [WALKER, UP, (UP,), ROWS]:
            self.fails(InvalidText, text, Lead.read, text)
            self.fails(InvalidText, text, Lead.read, text=text)
        self.assertEqual(len(Lead.read("\n".join(["ruler + 1"] * 4))), 4)


class TestLed(Case):
    def test_letter_by_letter(self):
        rng = random.Random(3)
        for world in WORLDS:
            for _ in range(12):
                lead = random_lead(rng, world, 4)
                word = random_word(rng, len(lead), rng.randint(0, 9))
                row = Row(len(lead), word)
                change = self.same_by_name(led, lead, row)
                self.assertEqual(change, done(world, letter_changes(lead, word)))
                self.assertIs(change.__class__, lead.changes[0].__class__)
                self.assertEqual(str(led(lead, Row(len(lead), ""))), STILL[world])

    def test_one_behind_another_and_undone(self):
        rng = random.Random(4)
        for world in WORLDS:
            for _ in range(12):
                lead = random_lead(rng, world, 3)
                one, other = (Row(len(lead), random_word(rng, len(lead), rng.randint(0, 7))) for _ in range(2))
                self.assertEqual(led(lead, row_then(one, other)), then(led(lead, one), led(lead, other)))
                self.assertEqual(led(lead, row_undone(one)), undone(led(lead, one)))

    def test_great_numbers(self):
        self.assertEqual(led(Lead((Slide(1, GREAT),)), Row(1, "a" * 400)), Slide(1, 400 * GREAT))
        self.assertEqual(led(Lead((Point((GREAT, -GREAT)),)), Row(1, "A" * 400)), Point((-400 * GREAT, 400 * GREAT)))
        self.assertEqual(led(Lead((Move(GREAT, GREAT, 1),)), Row(1, "a" * 400)), often(Move(GREAT, GREAT, 1), 400))

    def test_too_great_on_the_way(self):
        lit = Round(2, tuple((place, 1) for place in range(8)), 8)
        cases = [(Lead((Row(1, "aaaaaa"), Row(1, "AAAAAA"))), "a" * 66, "a" * 67, 402),
                 (Lead((Row(3, "abc"), Row(3, "CBA"))), "a" * 133, "a" * 134, 402),
                 (Lead((View(2, 4, (0, 1)), View(2, -4, (0, 1)))), "a" * 100, "a" * 101, 404),
                 (Lead((View(5, -3, (1, 5)), View(5, 3, (-25, 1)))), "a" * 133, "a" * 134, -402),
                 (Lead((lit, undone(lit))), "a" * 50, "a" * 51, 408)]
        for lead, good, bad, many in cases:
            self.assertEqual(led(lead, Row(2, good)), often(lead.changes[0], len(good)))
            self.fails(TooGreat, many, led, lead, Row(2, bad))
            self.fails(TooGreat, many, led, lead, Row(2, bad + "b" * len(bad)))
            self.fails(TooGreat, many, led, row=Row(2, bad + "aab"), lead=lead)
            self.assertIs(is_lost(lead, Row(2, bad + "b" * len(bad))), True)
            self.assertIs(is_lost(lead, Row(2, bad + "b" * (len(bad) - 1))), False)

    def test_lots(self):
        rng = random.Random(5)
        for world in WORLDS:
            for _ in range(12):
                lead = random_lead(rng, world, 2)
                rows = [Row(len(lead), random_word(rng, len(lead), rng.randint(0, 2))) for _ in range(rng.randint(1,
                        5))]
                told = tuple(led(lead, row) for row in rows)
                try:
                    lot = lot_of(told)
                except InvalidChanges as error:
                    self.fails(InvalidChanges, error.index, led_lot, lead, RowLot(tuple(rows)))
                else:
                    self.assertEqual(self.same_by_name(led_lot, lead, RowLot(tuple(rows))), lot)

    def test_led_changes_that_are_not_small(self):
        rows = RowLot((Row(1, ""), Row(1, "a"), Row(1, "A" * 12), Row(1, "a" * 6)))
        for change in (Row(2, "ababab"), Point((GREAT,)), Slide(1, -GREAT), View(2, 3, (0, 1)), View(3, 0, (100, 1)),
                       Round(2, ((24, 1),), 2), Move(GREAT // 6, 1, 0)):
            self.fails(InvalidChanges, 2, led_lot, Lead((change,)), rows)
            self.fails(InvalidChanges, 2, led_lot, lot=rows, lead=Lead((change,)))
        self.assertEqual(led_lot(Lead((Round(2, ((24, 1),), 0),)), rows).text.split("\n")[2], "lamps 2 end 0 dark")


class TestLost(Case):
    def test_against_what_is_led(self):
        rng = random.Random(6)
        for world in WORLDS:
            for _ in range(10):
                lead = random_lead(rng, world, 1)
                for word in words_up_to(len(lead), 3):
                    row = Row(len(lead), word)
                    plain = word != "" and str(led(lead, row)) == STILL[world]
                    self.assertIs(self.same_by_name(is_lost, lead, row), plain)

    def test_still_row_is_not_lost(self):
        for world in WORLDS:
            self.assertIs(is_lost(Lead((still(world),) * 2), Row(2, "aA")), False)
            self.assertIs(is_lost(Lead((still(world),) * 2), Row(2, "ab")), True)

    def test_keeps_apart_against_all_short_rows(self):
        rng = random.Random(7)
        kept = 0
        for world in ["rows 1", "rows 2", "rows 3"] + WORLDS:
            for _ in range(8):
                lead = random_lead(rng, world, 3)
                apart = self.same_by_name(keeps_apart, lead)
                kept += apart
                lost = [word for word in words_up_to(len(lead), 4 if len(lead) < 4 else 3)
                        if is_lost(lead, Row(len(lead), word))]
                row = lost_row(lead)
                self.assertIs(apart, row is None)
                if lost:
                    self.assertIs(apart, False)
                if row is not None:
                    self.assertIs(self.same_by_name(is_lost, lead, row), True)
                    self.assertIs(row.__class__, Row)
                    self.assertEqual(row.letters, len(lead))
                    self.assertEqual(self.same_by_name(lost_row, lead), row)
        self.assertGreater(kept, 20)

    def test_rows_keep_apart_by_ties_beside_a_tree(self):
        rng = random.Random(8)
        apart = 0
        for _ in range(300):
            letters, many = rng.randint(1, 4), rng.randint(2, 4)
            words = [random_word(rng, letters, rng.randint(0, 6)) for _ in range(many)]
            lead = Lead(tuple(Row(letters, word) for word in words))
            ties = set(folded_ties(words))
            places = {0} | {place for tie in ties for place in (tie[0], tie[2])}
            self.assertIs(keeps_apart(lead), len(ties) - len(places) + 1 == many)
            row = lost_row(lead)
            apart += row is None
            self.assertIs(row is None, keeps_apart(lead))
            if row is not None:
                self.assertIs(is_lost(lead, row), True)
                self.assertIs(is_lost(lead, row_undone(row)), True)
        self.assertTrue(30 < apart < 270)

    def test_one_letter(self):
        for change, order in [(Row(2, ""), 1), (Row(1, "a"), None), (Point((0, 0)), 1), (Point((0, 5)), None),
                              (FLIP, 2),
                              (FAR, None), (Slide(1, 0), 1), (View(2, 0, (0, 1)), 1), (View(2, 0, (1, 2)), None),
                              (View(3, 1, (0, 1)), None), (Round(2, (), 0), 1), (Round(2, ((3, 1),), 0), 2),
                              (Round(3, ((3, 1),), 0), 3), (Round(5, ((-1, 2), (3, 1)), 0), 5),
                              (Round(7, ((3, 6),), 0), 7),
                              (Round(7, ((3, 6),), 1), None), (Round(2, (), -1), None), (Move(0, 0, 0), 1),
                              (Move(0, 0, 1), None), (Move(1, 0, 0), None)]:
            lead = Lead((change,))
            self.assertIs(keeps_apart(lead), order is None)
            self.assertEqual(lost_row(lead), None if order is None else Row(1, "a" * order))
            for many in range(1, 15):
                self.assertIs(is_lost(lead, Row(1, "A" * many)), order is not None and many % order == 0)

    def test_other_worlds_never_keep_two_letters_apart(self):
        rng = random.Random(9)
        for world in WORLDS:
            for _ in range(20):
                lead = random_lead(rng, world, 5)
                if len(lead) > 1 and not world.startswith("rows"):
                    self.assertIs(keeps_apart(lead), False)
                    self.assertIs(is_lost(lead, lost_row(lead)), True)

    def test_beyond_gaps(self):
        gap = Row(2, "abAB")
        for one, other in [(RIGHT, UP), (Slide(-1, 0), Slide(-1, 1)), (FAR, FLIP),
                           (View(2, 1, (0, 1)), View(2, 0, (1, 1))),
                           (View(5, 4, (1, 625)), View(5, -4, (-100, 1))), (Round(2, ((0, 1),), 0), Round(2, (), 1)),
                           (Round(7, ((0, 3), (5, 6)), 8), Round(7, ((-24, 1), (24, 2)), -7)),
                           (Move(2, 3, 1), Move(GREAT, 1, 0))]:
            lead = Lead((one, other))
            self.assertIs(is_lost(lead, gap), False)
            self.assertIs(is_lost(lead, lost_row(lead)), True)

    def test_rows_with_far_lost_rows(self):
        for words in (["aaabaa", "aabaa", "ccbccc", "bbCbbb"], ["aabaaa", "cccAcc", "b", "BBBBBc"], ["a", "aaaaaa"],
                      ["aaaaa", "aaaaaa"], ["ab", "ba", "abba"], ["ab", "ab"], ["ab", "BA"], ["a", ""], ["", ""],
                      ["bbb", "bbbbb", "bb"], ["abA", "abbA"], ["aab", "b", "aaa", "a"], ["dcba", "ba", "c", "d"]):
            lead = Lead(tuple(Row(4, word) for word in words))
            self.assertIs(keeps_apart(lead), False)
            self.assertIs(is_lost(lead, lost_row(lead)), True)
        for words in (["aaa", "bbb"], ["ab", "ba"], ["a", "baB", "bbaBB", "cc"], ["a", "b", "c", "d"], ["ab", "cd"]):
            lead = Lead(tuple(Row(4, word) for word in words))
            self.assertIs(keeps_apart(lead), True)
            self.assertIsNone(lost_row(lead))


if __name__ == "__main__":
    unittest.main()
