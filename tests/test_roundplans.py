"""Plans of rounds: what they do, what is too great on the way, and that those that are told do their round."""

import random
import unittest

from helpers import Case, deep_plan, flat, press_count, random_plan
from pressworlds.errors import TooGreat
from pressworlds.roundlots import RoundLot, round_doing, round_form, round_makes, round_plan
from pressworlds.rounds import Round, round_often, round_then, round_undone

LEVELS = (2, 3, 5, 7)
MANY = 10 ** 39 + 3


def made_of(levels, picture, end):
    return Round(levels, tuple(sorted((place, level % levels) for place, level in picture.items() if level % levels)), end)


def random_round(rng, levels, most, end, share):
    picture = {place: rng.randrange(levels) for place in range(-most, most + 1) if rng.random() < share}
    return made_of(levels, picture, end)


def random_lot(rng, levels, most, step):
    share = rng.choice([0.05, 0.3, 1])
    return RoundLot(tuple(random_round(rng, levels, most, step * rng.randint(-(8 // max(1, step)), 8 // max(1, step)), share)
                          for _ in range(rng.randint(1, 5))))


def is_near(one):
    return abs(one.end) <= 40 and all(abs(place) <= 40 for place, _ in one.lamps)


def greatest(made, plan):
    """Return what a plan does, and the most lamps of anything on the way."""
    done, most = Round(made.changes[0].levels, (), 0), 0
    for part, times in plan:
        step, inner = greatest(made, part) if isinstance(part, tuple) else (made.changes[part], 0)
        often = round_often(step, times)
        done = round_then(done, often)
        most = max(most, inner, len(step.lamps), len(often.lamps), len(done.lamps))
    return done, most


class TestTold(Case):
    def check(self, made, change):
        """Check what is told of a near round; return the most lamps as its plan is done, None without one."""
        plan = self.same_by_name(round_plan, made, change)
        self.assertEqual(plan is not None, round_makes(made, change))
        if plan is None:
            return None
        done, most = greatest(made, plan)
        self.assertEqual(done, change)
        self.assertEqual(self.same_by_name(round_doing, made, plan), change)
        return most

    def test_press_by_press(self):
        rng = random.Random(1)
        pressed = 0
        while pressed < 120:
            levels = rng.choice(LEVELS)
            made = random_lot(rng, levels, 2, rng.choice([0, 1, 2, 4]))
            change = round_doing(made, tuple((rng.randrange(len(made)), rng.choice([1, -1])) for _ in range(5)))
            plan = round_plan(made, change)
            if press_count(plan) < 500:
                pressed += 1
                done = Round(levels, (), 0)
                for index, sign in flat(plan):
                    told = made.changes[index]
                    done = round_then(done, told if sign > 0 else round_undone(told))
                self.assertEqual(done, change)

    def test_random_lots(self):
        rng = random.Random(2)
        made_so = 0
        for _ in range(400):
            levels, step = rng.choice(LEVELS), rng.randint(0, 8)
            made = random_lot(rng, levels, 24, step)
            change = Round(levels, (), 0)
            for _ in range(rng.randrange(6)):
                after = round_then(change, round_often(rng.choice(made.changes), rng.choice([1, -1])))
                change = after if is_near(after) else change
            self.assertLess(self.check(made, change), 400)
            end = step * rng.randint(-(40 // max(1, step)), 40 // max(1, step))
            most = self.check(made, random_round(rng, levels, 40, end, 1))
            made_so += most is not None
            self.assertLess(most or 0, 400)
        self.assertGreater(made_so, 30)

    def test_chains_that_need_long_ways(self):
        # Each told round trades a lamp for one far off in the next one's r-part; so the shares are far away.
        rng = random.Random(3)
        greatest_seen = 0
        for _ in range(60):
            levels, step, side = rng.choice(LEVELS), rng.randint(1, 8), rng.choice([1, -1])
            way = made_of(levels, {place: rng.choice([1, -1]) for place in range(-24, 25)}, rng.choice([step, -step]))
            rests = rng.sample(range(step), min(4, step))
            told = [way]
            for at, rest in enumerate(rests):
                places = [place for place in range(-24, 25) if place % step == rest][::side]
                picture = {places[0]: 1}
                if at + 1 < len(rests):
                    picture[[place for place in range(-24, 25) if place % step == rests[at + 1]][::side][-1]] = 1
                told.append(made_of(levels, picture, rng.choice([0, step * (8 // step), -step * (8 // step)])))
            made = RoundLot(tuple(told))
            for place in (40 - (40 - rests[0]) % step, -40 + (40 + rests[0]) % step):
                for end in (0, 40 // step * step, -(40 // step * step)):
                    most = self.check(made, Round(levels, ((place, 1),), end))
                    greatest_seen = max(greatest_seen, most or 0)
        self.assertTrue(150 < greatest_seen < 400, greatest_seen)

    def test_edges(self):
        for made in (RoundLot((Round(2, (), 0),)), RoundLot((Round(2, ((0, 1),), 0),)), RoundLot((Round(2, (), 1),))):
            self.assertEqual(self.check(made, Round(2, (), 0)), 0)
            self.assertEqual(round_doing(made, ()), Round(2, (), 0))
            self.assertEqual(round_doing(made, (((), MANY), ((), -1))), Round(2, (), 0))
            self.assertIsNone(self.check(made, Round(2, ((1, 1),), 0)))
        self.assertIsNone(self.check(RoundLot((Round(2, (), 2),)), Round(2, (), 1)))
        self.assertIsNone(self.check(RoundLot((Round(2, (), 0),)), Round(2, (), 1)))
        self.assertIsNotNone(self.check(RoundLot((Round(2, (), 2), Round(2, (), 3))), Round(2, (), -39)))
        self.assertIsNotNone(self.check(RoundLot((Round(7, ((0, 3),), 0), Round(7, ((1, 5),), 0))),
                                        Round(7, ((0, 1), (1, 2)), 0)))
        both = RoundLot((Round(7, (), 1), Round(7, ((24, 3),), 0)))
        for end in (-40, 0, 40):
            change = Round(7, tuple((place, 1 + place % 6) for place in range(-40, 41)), end)
            self.assertLessEqual(self.check(both, change), 81)


class TestDoing(Case):
    def test_random_plans_press_by_press(self):
        rng = random.Random(4)
        for _ in range(200):
            levels = rng.choice(LEVELS)
            made = random_lot(rng, levels, 3, rng.choice([0, 1, 2]))
            plan = random_plan(rng, len(made), 3, [-2, -1, 1, 2])
            done = Round(levels, (), 0)
            for index, sign in flat(plan):
                told = made.changes[index]
                done = round_then(done, told if sign > 0 else round_undone(told))
            self.assertEqual(self.same_by_name(round_doing, made, plan), done)

    def test_plans_five_deep_and_times_of_40_digits(self):
        made = RoundLot((Round(3, (), 1), Round(3, ((0, 1),), 0), Round(3, ((0, 1), (1, 2)), 1)))
        self.assertEqual(round_doing(made, deep_plan(0, 5, MANY)), Round(3, (), MANY ** 5))
        self.assertEqual(round_doing(made, deep_plan(1, 5, MANY)), Round(3, ((0, MANY ** 5 % 3),), 0))
        self.assertEqual(round_doing(made, deep_plan(1, 5, -3 * MANY)), Round(3, (), 0))
        self.assertEqual(round_doing(made, deep_plan(2, 1, MANY)), Round(3, ((0, 1), (MANY, 2)), MANY))
        self.assertEqual(round_doing(made, deep_plan(2, 1, -MANY)), Round(3, ((-MANY, 2), (0, 1)), -MANY))
        self.assertEqual(round_doing(made, deep_plan(2, 3, -MANY)).lamps, ((-MANY ** 3, 2), (0, 1)))
        self.assertEqual(round_doing(made, ((0, MANY), (1, 2), (0, -MANY))), Round(3, ((MANY, 2),), 0))

    def test_the_first_that_is_too_great(self):
        made = RoundLot((Round(5, ((0, 1),), 1), Round(5, ((-1, 4),), -1), Round(5, ((0, 2), (7, 1)), 0), Round(5, (), 8)))
        for plan, many in [(((0, 401),), 401), (((0, -401),), 401), (((0, 401), (0, -401)), 401), (((0, MANY), (1, MANY)), MANY),
                           (((0, 400), (0, 1), (0, -1)), 401), (((1, 400), (1, 7), (0, 407)), 407),
                           (((0, 400), (3, 1), (2, 1)), 402), (((0, 399), (3, 1), (2, 1), (0, 999)), 401),
                           (((((0, 300), (0, -300)), 1), (0, 500)), 500), (((((0, 500), (0, -500)), 1),), 500),
                           (((((0, 250), (0, 250)), 1), (0, -500)), 500), (((((0, 250), (3, 1)), 2),), 500),
                           (((0, 300), (((0, 60), (0, 60)), 1), (0, -420)), 420), (((2, MANY), (0, MANY + 4)), MANY + 4),
                           (((((0, 2), (3, 1)), 201),), 402), (((((0, 2), (3, 1)), -MANY),), 2 * MANY)]:
            self.fails(TooGreat, many, round_doing, made, plan)
            self.fails(TooGreat, many, round_doing, plan=plan, lot=made)
        for plan, lamps, end in [(((0, 400),), 400, 400), (((0, 400), (1, 400)), 0, 0), (((0, -400), (0, 400), (0, 400)), 400, 400),
                                 (((((0, 2), (3, 1)), 200),), 400, 2000), (((0, 400), (((3, 1), (3, -1)), MANY)), 400, 400)]:
            done = self.same_by_name(round_doing, made, plan)
            self.assertEqual((len(done.lamps), done.end), (lamps, end))

    def test_what_random_plans_do_is_made(self):
        rng = random.Random(5)
        seen = 0
        while seen < 150:
            made = random_lot(rng, rng.choice(LEVELS), 6, rng.randint(0, 8))
            done = round_doing(made, random_plan(rng, len(made), 2, [-1, 1, 2]))
            if is_near(done):
                seen += 1
                self.assertIs(round_makes(made, done), True)
                self.assertEqual(round_doing(made, round_plan(made, done)), done)
                self.assertIs(round_form(made)[0] == 0 or done.end % round_form(made)[0] == 0, True)


if __name__ == "__main__":
    unittest.main()
