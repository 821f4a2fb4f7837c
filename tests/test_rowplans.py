"""Plans of rows: what is a plan, what it does, what is too great on the way, and plans that are told."""

import random
import unittest

from helpers import Case, back, flat, random_word, struck, words_up_to
from pressworlds.errors import InvalidPlan, TooGreat
from pressworlds.rowlots import RowLot, row_doing, row_makes, row_plan
from pressworlds.rows import Row


def lot(*words, letters=2):
    return RowLot(tuple(Row(letters, word) for word in words))


def deep_plan(part, plans):
    """Return a plan with so many plans within one another around a part."""
    for _ in range(plans):
        part = ((part, 1),)
    return part


def done_plainly(words, plan):
    word = ""
    for index, sign in flat(plan):
        word = struck(word + (words[index] if sign > 0 else back(words[index])))
    return word


def random_plan(rng, many, plans):
    """Return a random plan with at most so many plans within one another."""
    pairs = []
    for _ in range(rng.randrange(4)):
        part = random_plan(rng, many, plans - 1) if plans > 1 and rng.random() < 0.6 else rng.randrange(many)
        pairs.append((part, rng.choice([-2, -1, 1, 2])))
    return tuple(pairs)


class TestDoing(Case):
    def test_small_plans(self):
        told = lot("a", "bA")
        for plan, word in [((), ""), (((0, 1),), "a"), (((0, -1),), "A"), (((0, 3), (1, 1)), "aaabA"),
                           (((1, 1), (0, 1)), "b"), (((0, 1), (0, -1)), ""), ((((), 5),), ""),
                           (((((1, 1), (0, 1)), 3), (0, 2)), "bbbaa"), (((((1, 1), (0, 1)), -2),), "BB"),
                           (((((0, 1), (((1, 1),), 2), (0, -1)), -1),), "aaBaBA")]:
            done = self.same_by_name(row_doing, told, plan)
            self.assertEqual((done.letters, done.word), (2, word))

    def test_against_plain_doing(self):
        rng = random.Random(1)
        done = 0
        while done < 400:
            words = [random_word(rng, 2, rng.randint(0, 3)) for _ in range(rng.randint(1, 3))]
            plan = random_plan(rng, len(words), 3)
            if len(flat(plan)) < 120:
                self.assertEqual(row_doing(lot(*words), plan).word, done_plainly(words, plan))
                done += 1

    def test_five_plans_within_one_another_and_six(self):
        told = lot("ab")
        self.assertEqual(row_doing(told, deep_plan(0, 5)).word, "ab")
        self.fails(InvalidPlan, plan := deep_plan(0, 6), row_doing, told, plan)
        self.assertEqual(row_doing(told, deep_plan((), 4)).word, "")
        self.fails(InvalidPlan, plan := deep_plan((), 5), row_doing, told, plan)
        self.fails(InvalidPlan, plan := deep_plan(0, 18), row_doing, told, plan)
        many = 0
        for times in (-1, 1, -1, 1, -1):
            many = ((many, times),)
        self.assertEqual(row_doing(told, many).word, "BA")

    def test_times_of_40_digits(self):
        many = 10 ** 39 + 1
        still, told = lot("", letters=1), lot("a", "", "bbA", "aba")
        self.assertEqual(row_doing(still, ((0, many), (((0, -many),), many))).word, "")
        self.assertEqual(row_doing(told, ((1, many), (0, 2))).word, "aa")
        self.assertEqual(row_doing(told, ((((0, 1), (0, -1)), many), (0, 2))).word, "aa")
        self.fails(TooGreat, many, row_doing, told, ((0, many),))
        self.fails(TooGreat, many, row_doing, told, ((0, -many), (0, many)))
        self.fails(TooGreat, 3 * many, row_doing, told, ((((2, 1),), many),))
        self.fails(TooGreat, 3 * many, row_doing, told, ((((3, 1),), -many),))

    def test_wrong_plan_ahead_of_too_great(self):
        told = lot("a" * 12)
        plan = ((0, 1000), (0, 0))
        self.fails(InvalidPlan, plan, row_doing, told, plan)
        plan = ((0, 10 ** 40), ((((1, 1),), 1), 1))
        self.fails(InvalidPlan, plan, row_doing, told, plan)

    def test_what_is_too_great_first(self):
        told = lot("ab" * 6, "b", "a" * 12, "baaB")
        self.assertEqual(len(row_doing(told, ((0, 33), (1, 4)))), 12 * 33 + 4)
        self.assertEqual(len(row_doing(told, ((0, 33), (1, -1), (1, 5)))), 12 * 33 + 4)
        self.fails(TooGreat, 401, row_doing, told, ((0, 33), (1, 5), (1, -5)))
        self.fails(TooGreat, 401, row_doing, told, ((0, 33), (1, 3), (1, 2)))
        self.fails(TooGreat, 408, row_doing, told, ((0, 33), (0, 1), (0, -34)))
        self.fails(TooGreat, 408, row_doing, told, ((0, 34), (2, 35), (0, -34)))
        self.fails(TooGreat, 408, row_doing, told, ((2, 33), (2, 1), (0, 40)))
        # The part so many times comes ahead of all up to there, also where all would not be too great.
        self.fails(TooGreat, 420, row_doing, told, ((2, 33), (2, -35)))
        self.fails(TooGreat, 420, row_doing, told, ((0, 33), (2, 35)))
        # The part by itself comes ahead of the part so many times.
        self.fails(TooGreat, 444, row_doing, told, ((((0, 37),), 2),))
        self.fails(TooGreat, 444, row_doing, told, ((1, 4), (((0, 37), (0, -37)), 10 ** 30)))
        self.fails(TooGreat, 402, row_doing, told, ((((1, 201),), 2),))
        self.fails(TooGreat, 401, row_doing, told, ((((((1, 400), (1, 1)), 1),), 1),))
        # One that is never too great by itself, but is when done often: its neck counts twice.
        self.assertEqual(len(row_doing(told, ((3, 199),))), 400)
        self.fails(TooGreat, 402, row_doing, told, ((3, 200),))
        self.fails(TooGreat, 402, row_doing, told, ((3, -200), (3, 200)))

    def test_exactly_400_letters_on_the_way(self):
        told = lot("a", "b")
        self.assertEqual(row_doing(told, ((0, 400), (0, -399))).word, "a")
        self.fails(TooGreat, 401, row_doing, told, ((0, 400), (0, 1), (0, -400)))
        self.fails(TooGreat, 401, row_doing, told, ((0, -401), (0, 401)))
        self.assertEqual(len(row_doing(told, ((((0, 1), (1, 1)), 200),))), 400)
        self.fails(TooGreat, 402, row_doing, told, ((((0, 1), (1, 1)), 201),))


class TestTold(Case):
    def check(self, told, word):
        """Check the plan of a word against what is made, and that it does it with nothing too great on the way."""
        change = Row(told.changes[0].letters, word)
        plan = self.same_by_name(row_plan, told, change)
        self.assertEqual(plan is not None, row_makes(told, change))
        if plan is not None:
            self.assertEqual(row_doing(told, plan), change)
            self.assertIs(plan.__class__, tuple)
        return plan

    def test_all_short_words(self):
        rng = random.Random(2)
        for letters, most in ((1, 12), (2, 4), (3, 3), (4, 2)):
            for _ in range(30):
                told = lot(*(random_word(rng, letters, rng.randint(0, 5)) for _ in range(rng.randint(1, 5))),
                           letters=letters)
                for word in words_up_to(letters, most):
                    plan = self.check(told, word)
                    if plan is not None:
                        self.assertEqual(done_plainly([change.word for change in told.changes], plan), word)

    def test_still_row(self):
        for told in (lot("a"), lot(""), lot("ab", "", "A")):
            self.assertEqual(row_doing(told, row_plan(told, Row(2, ""))).word, "")
        self.assertIsNone(row_plan(lot(""), Row(2, "a")))

    def test_random_products(self):
        rng = random.Random(3)
        longest = 0
        for _ in range(500):
            letters = rng.randint(1, 4)
            size = rng.choice([3, 6, 12])
            words = [random_word(rng, letters, rng.randint(1, size)) for _ in range(rng.randint(1, 5))]
            told, product = lot(*words, letters=letters), ""
            for _ in range(rng.randint(1, 60)):
                word = rng.choice(words)
                longer = struck(product + rng.choice([word, back(word)]))
                product = longer if len(longer) <= 200 else product
            longest = max(longest, len(product))
            self.assertIsNotNone(self.check(told, product))
        self.assertGreater(longest, 190)

    def test_lots_that_make_all_rows(self):
        rng = random.Random(4)
        for _ in range(60):
            letters = rng.randint(2, 4)
            words = list("abcd"[:letters])
            for _ in range(40):
                one, other = rng.randrange(letters), rng.randrange(letters)
                if one != other:
                    longer = struck(words[one] + rng.choice([words[other], back(words[other])]))
                    words[one] = longer if len(longer) <= 12 else words[one]
            told = lot(*words, letters=letters)
            for size in (1, 2, 200):
                self.assertIsNotNone(self.check(told, random_word(rng, letters, size)))

    def test_lots_of_one_letter(self):
        for one in range(13):
            for other in range(one, 13):
                told = lot("a" * one, "A" * other, letters=1)
                for times in (0, 1, 2, 3, 7, 12, 60, 132, 199, 200):
                    self.check(told, "a" * times)
                    self.check(told, "A" * times)

    def test_towers_that_need_many_presses(self):
        for words in (("a", "b" + "a" * 11, "c" + "b" * 11, "d" + "c" * 11),
                      ("a" * 12, "a" * 7, "b" + "a" * 11, "c" + "b" * 11, "d" + "c" * 11),
                      ("a" * 6 + "b" + "a" * 5, "b" * 6 + "c" + "b" * 5, "c" * 6 + "d" + "c" * 5, "a")):
            told = lot(*words, letters=4)
            for word in ("d", "dcba", "d" * 200, "dcbaDCBA" * 25, "D" * 99 + "c" * 99):
                self.assertIsNotNone(self.check(told, word))

    def test_long_way_to_a_place_and_back(self):
        told = lot("a" * 11 + "b", "a" * 12, "bbbb")
        for word in ("b", "a", "ab" * 100, "B" * 200):
            self.check(told, word)
        self.check(lot("aaaaabAAAAA", "aaaaaabAAAAA"), "aaaaa" + "ba" * 90 + "AAAAA")


if __name__ == "__main__":
    unittest.main()
