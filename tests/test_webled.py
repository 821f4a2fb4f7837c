"""Webs led into lots, coset by coset; errors of leads and their order."""

import random
import unittest

from helpers import Case, ODD, random_word, words_up_to
from pressworlds.errors import InvalidChanges, NotAChange, NotALead, NotALot, OtherWorld, TooMany
from pressworlds.grids import taken_by_lines
from pressworlds.leads import Lead, is_lost, keeps_apart, led, led_lot, lost_row, web_into
from pressworlds.moves import Move
from pressworlds.pointlots import PointLot, point_form
from pressworlds.points import Point
from pressworlds.roundlots import RoundLot, is_trip_in
from pressworlds.rounds import Round, trip_of
from pressworlds.rowlots import RowLot, row_cosets, row_form
from pressworlds.rows import Row
from pressworlds.slidelots import SlideLot
from pressworlds.slides import Slide
from pressworlds.viewlots import ViewLot, is_pair_in
from pressworlds.views import View, pair_of
from pressworlds.webs import clash_of, numbered_ties, place_count, steps_of, walked_to
from pressworlds.worlds import cosets, lot_of, makes, often, then, undone
from samples import GREAT, SIX, WORLDS, letter_changes, random_change, random_lead, random_lot, still

RIGHT, UP = Move(1, 0, 0), Move(0, 1, 0)
FAR, FLIP = Slide(1, 5), Slide(-1, 3)
WALKER = Lead((RIGHT, UP))
ROWS = RowLot((Row(2, "ab"),))


def is_made(lot, change):
    """Return whether any change, near or not, is made; by other ways than those by which webs are led."""
    if isinstance(lot, ViewLot):
        return is_pair_in(lot.factor, lot.form, pair_of(change))
    if isinstance(lot, RoundLot):
        return is_trip_in(lot.levels, lot.form, trip_of(change))
    return makes(lot, change)


def plain_web(lead, lot, most):
    """Return the ties of the web led into a lot, by asking of each two changes if they are together; None if many."""
    places = [still(lead.world)]
    ties = []
    at = 0
    while at < len(places):
        for way in "aAbBcCdD"[:2 * len(lead)]:
            goal = then(places[at], letter_changes(lead, way)[0])
            met = [k for k, place in enumerate(places) if is_made(lot, then(goal, undone(place)))]
            if not met:
                met = [len(places)]
                places.append(goal)
                if len(places) > most:
                    return None
            assert len(met) == 1
            if way.islower():
                ties.append((at, way, met[0]))
        at += 1
    return tuple(sorted(ties))


class TestWebs(Case):
    def led_web(self, lead, lot):
        """Return the web led into a lot, None if it has more than 60 places."""
        try:
            return self.same_by_name(web_into, lead, lot)
        except TooMany as error:
            self.assertEqual(error.given, 61)
            return None

    def test_coset_by_coset(self):
        rng = random.Random(1)
        sizes = {}
        for world in WORLDS * 3:
            for _ in range(8):
                lead, lot = random_lead(rng, world, 3), random_lot(rng, world, 3)
                web = self.led_web(lead, lot)
                plain = plain_web(lead, lot, 12)
                if plain is None:
                    self.assertTrue(web is None or place_count(web) > 12)
                else:
                    self.assertEqual(web, plain)
                    sizes.setdefault(world, []).append(place_count(web))
        self.assertGreater(len({size for met in sizes.values() for size in met}), 8)

    def test_rows_go_back_to_the_start_exactly_if_led_into_the_lot(self):
        rng = random.Random(2)
        for world in WORLDS:
            for _ in range(15):
                lead, lot = random_lead(rng, world, 2), random_lot(rng, world, 2)
                web = self.led_web(lead, lot)
                if web is not None:
                    self.check_web(rng, web, lead, lot)

    def check_web(self, rng, web, lead, lot):
        """Check that a web is one of rows, numbered, goes on from everywhere, and lets what is led into the lot."""
        letters = "abcd"[:len(lead)]
        self.assertEqual(len(web), len(letters) * place_count(web))
        self.assertIsNone(clash_of(web))
        steps = steps_of(web)
        self.assertEqual(numbered_ties(steps, 0), web)
        self.assertTrue(all(place.__class__ is int and goal.__class__ is int and way in letters for place, way,
                goal in web))
        many = cosets(lot)
        if many is not None:
            self.assertLessEqual(place_count(web), many)
        words = words_up_to(len(lead), 2) + [random_word(rng, len(lead), rng.randint(3, 12)) for _ in range(20)]
        for word in words:
            change = led(lead, Row(len(lead), word))
            self.assertIs(walked_to(steps, 0, word) == 0, is_made(lot, change), word)

    def test_lots_of_rows_within_the_web(self):
        rng = random.Random(3)
        seen = {True: 0, False: 0}
        for world in WORLDS * 2:
            for _ in range(10):
                lead, lot = random_lead(rng, world, 2), random_lot(rng, world, 2)
                rows = RowLot(tuple(Row(len(lead), random_word(rng, len(lead), rng.randint(0, 2))) for _ in range(2)))
                web = self.led_web(lead, lot)
                try:
                    into = led_lot(lead, rows)
                except InvalidChanges:
                    continue
                if web is not None:
                    inside = all(walked_to(steps_of(web), 0, row.word) == 0 for row in rows.changes)
                    seen[inside] += 1
                    self.assertIs(all(makes(lot, change) for change in into.changes), inside)
        self.assertGreater(min(seen.values()), 10)

    def test_letters_led_to_themselves(self):
        rng = random.Random(4)
        seen = 0
        for letters in (1, 2, 3, 4):
            lead = Lead(tuple(Row(letters, "abcd"[at]) for at in range(letters)))
            for _ in range(60):
                lot = RowLot(tuple(Row(letters, random_word(rng, letters, rng.randint(1, 3))) for _ in range(5)))
                if row_cosets(lot) is None:
                    self.fails(TooMany, 61, web_into, lead, lot)
                else:
                    seen += 1
                    self.assertEqual(self.led_web(lead, lot), row_form(lot))
        self.assertGreater(seen, 60)

    def test_counted_letters(self):
        rng = random.Random(5)
        for width in (1, 2, 3):
            lead = Lead(tuple(Point(tuple(int(at == own) for at in range(width))) for own in range(width)))
            for _ in range(30):
                lot = PointLot(tuple(Point(tuple(rng.randint(-4, 4) for _ in range(width))) for _ in range(4)))
                web = self.led_web(lead, lot)
                many = cosets(lot)
                if many is None or many > 60:
                    self.assertIsNone(web)
                else:
                    self.assertEqual(place_count(web), many)
                    for place in range(many):
                        self.assertEqual(numbered_ties(steps_of(web), place), web)
                    for word in words_up_to(width, 3):
                        rest = taken_by_lines(point_form(lot), led(lead, Row(width, word)).numbers)[0]
                        self.assertIs(walked_to(steps_of(web), 0, word) == 0, not any(rest))

    def test_one_60_and_61_places(self):
        cases = [(Slide(1, 1), lambda many: Slide(1, many)),
                 (Point((1, 1)), lambda many: Point((many, many))),
                 (Point((0, -GREAT, 0)), lambda many: Point((0, many * GREAT // 2 ** 7, 0))),
                 (Move(1, 0, 0), lambda many: Move(many, 0, 0)),
                 (Move(0, 0, -1), lambda many: Move(0, 0, many)),
                 (View(2, 0, (1, 2)), lambda many: View(2, 0, (many, 2)) if many % 2 else View(2, 0, (many // 2, 1)))]
        for change, told in cases:
            for many in (1, 2, 7, 59, 60, 61, 62):
                lot = lot_of((told(many),))
                plain = plain_web(Lead((change,)), lot, 60)
                self.assertEqual(self.led_web(Lead((change,)), lot), plain)
                if change != Point((0, -GREAT, 0)):
                    self.assertEqual(plain is None, many > 60)
                    if many > 60:
                        self.fails(TooMany, 61, web_into, Lead((change,)), lot)
                        self.fails(TooMany, 61, web_into, lot=lot, lead=Lead((change, often(change, 2))))
                    else:
                        self.assertEqual(place_count(plain), many)

    def test_all_in_one_place(self):
        for world in WORLDS:
            change = random_change(random.Random(world), world, 3)
            for lot in (lot_of((change,)), lot_of((still(world), change))):
                self.assertEqual(web_into(Lead((change,)), lot), ((0, "a", 0),))
                self.assertEqual(web_into(Lead((change, undone(change), still(world))), lot),
                                 ((0, "a", 0), (0, "b", 0), (0, "c", 0)))
            self.assertEqual(web_into(Lead((still(world),)), lot_of((change,))), ((0, "a", 0),))

    def test_endlessly_many_cosets_of_which_few_are_met(self):
        for lead, lot, web in [
                (Lead((Slide(-1, 4),)), SlideLot((Slide(1, 0),)), ((0, "a", 1), (1, "a", 0))),
                (Lead((Round(3, ((9, 2),), 0),)), RoundLot((Round(3, (), 0),)),
                    ((0, "a", 1), (1, "a", 2), (2, "a", 0))),
                (Lead((Round(2, ((-24, 1), (24, 1)), 0), Round(2, ((24, 1),), 0))),
                    RoundLot((Round(2, ((-24, 1),), 0),)),
                 ((0, "a", 1), (0, "b", 1), (1, "a", 0), (1, "b", 0))),
                (Lead((Row(2, "abA"),)), RowLot((Row(2, "abbA"),)), ((0, "a", 1), (1, "a", 0))),
                (Lead((View(2, 0, (1, 2)), View(2, 0, (3, 1)))), ViewLot((View(2, 0, (1, 1)),)),
                 ((0, "a", 1), (0, "b", 0), (1, "a", 0), (1, "b", 1))),
                (Lead((Point((0, GREAT)),)), PointLot((Point((0, GREAT)),)), ((0, "a", 0),)),
                (Lead((UP,)), lot_of((Move(0, 2, 0),)), ((0, "a", 1), (1, "a", 0)))]:
            self.assertIsNone(cosets(lot))
            self.assertEqual(self.led_web(lead, lot), web)
        for world in WORLDS:
            change = {"rows": "a"}.get(world.split(" ")[0])
            lead = Lead((Row(int(world[-1]), change),)) if change else None
            if lead is not None:
                self.fails(TooMany, 61, web_into, lead, lot_of((still(world),)))
        self.fails(TooMany, 61, web_into, Lead((FAR,)), SlideLot((FLIP,)))
        self.fails(TooMany, 61, web_into, Lead((Round(2, (), 1),)), RoundLot((Round(2, ((0, 1),), 0),)))

    def test_nothing_is_too_far(self):
        # The ways to these places are views and rounds that are not near, and rows of more than 200 letters.
        lead = Lead((View(3, 3, (1, 27)), View(3, -3, (100, 81))))
        lot = ViewLot((View(3, 4, (1, 1)), View(3, 0, (13, 1))))
        web = self.led_web(lead, lot)
        self.assertEqual(place_count(web), 52)
        self.assertEqual(web, plain_web(lead, lot, 60))
        lead = Lead((Round(2, ((24, 1),), 8), Round(2, ((-24, 1),), -8)))
        lot = RoundLot((Round(2, ((0, 1), (3, 1), (5, 1)), 1),))
        self.assertIsNone(self.led_web(lead, lot))
        lot = RoundLot((Round(2, ((0, 1), (3, 1), (5, 1)), 1), Round(2, ((0, 1), (2, 1), (5, 1)), 0)))
        self.assertEqual(self.led_web(lead, lot), plain_web(lead, lot, 60))
        lead = Lead((Row(2, "ababab"), Row(2, "aabbab")))
        lot = RowLot((Row(2, "a"), Row(2, "bb"), Row(2, "bab")))
        self.assertEqual(self.led_web(lead, lot), plain_web(lead, lot, 60))

    def test_great_numbers(self):
        lead = Lead((Point((GREAT, 1)), Point((0, -GREAT))))
        lot = PointLot((Point((7, 0)), Point((0, 8))))
        self.assertEqual(self.led_web(lead, lot), plain_web(lead, lot, 60))
        lead = Lead((Move(GREAT, 1, -GREAT), Move(1, GREAT - 1, 5)))
        lot = lot_of((Move(2, 0, 1), Move(0, 3, 0)))
        self.assertEqual(self.led_web(lead, lot), plain_web(lead, lot, 60))


class TestErrors(Case):
    def test_no_lead(self):
        for value in ODD + [RIGHT, (RIGHT,), "areas 1 0 0", ROWS, Lead]:
            for call in (keeps_apart, lost_row):
                self.fails(NotALead, value, call, value)
                self.fails(NotALead, value, call, lead=value)
            for call, good in ((led, Row(2, "a")), (is_lost, Row(2, "a")), (led_lot, ROWS),
                    (web_into, lot_of((RIGHT,)))):
                self.fails(NotALead, value, call, value, good)
                self.fails(NotALead, value, call, value, None)
                self.fails(NotALead, value, call, value, Row(3, "a"))

    def test_no_row(self):
        for value in ODD + [RIGHT, Slide(1, 1), ROWS, WALKER, (Row(2, "a"),), Row]:
            for call in (led, is_lost):
                self.fails(NotAChange, value, call, WALKER, value)
                self.fails(NotAChange, value, call, row=value, lead=WALKER)

    def test_rows_of_other_numbers_of_letters(self):
        for letters in (1, 3, 4):
            row, lot = Row(letters, "a" * 400), RowLot((Row(letters, "a"),))
            for call in (led, is_lost):
                self.fails(OtherWorld, row, call, WALKER, row)
                self.fails(OtherWorld, row, call, row=row, lead=WALKER)
                self.fails(OtherWorld, row, call, Lead((View(2, 4, (0, 1)),) * 2), row)
            self.fails(OtherWorld, lot, led_lot, WALKER, lot)
            self.fails(OtherWorld, lot, led_lot, lot=lot, lead=Lead((Slide(1, GREAT),) * 2))

    def test_no_lot(self):
        for value in ODD + [RIGHT, (RIGHT,), WALKER, "areas 1 0 0", Row(2, "a"), RowLot]:
            for call in (led_lot, web_into):
                self.fails(NotALot, value, call, WALKER, value)
                self.fails(NotALot, value, call, lot=value, lead=WALKER)
        for world in SIX[1:]:
            lot = lot_of((still(world),))
            self.fails(NotALot, lot, led_lot, WALKER, lot)
            self.fails(NotALot, lot, led_lot, Lead((still(world),)), lot)

    def test_lots_of_other_worlds(self):
        for world in WORLDS:
            lead = Lead((random_change(random.Random(world), world, 3),))
            for other in WORLDS:
                lot = lot_of((still(other),))
                if other != world:
                    self.fails(OtherWorld, lot, web_into, lead, lot)
                    self.fails(OtherWorld, lot, web_into, lot=lot, lead=lead)


if __name__ == "__main__":
    unittest.main()
