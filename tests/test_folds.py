"""Folds: rank, least rows, ways, remainders, normal lots, what is moved; errors and their order."""

import itertools
import random
import unittest

from helpers import Case, ODD, back, check_defined, random_word, struck, words_up_to
from pressworlds import folds
from pressworlds.errors import NotAChange, NotALot, OtherWorld
from pressworlds.folds import is_normal_lot, least_rows, remainders, row_mover, row_rank, walked
from pressworlds.points import Point
from pressworlds.pointlots import PointLot
from pressworlds.rowlots import RowLot, needless_rows, row_cosets, row_form, row_makes, same_rows
from pressworlds.rows import Row

FUNCTIONS = {"row_rank": "lot", "least_rows": "lot", "walked": "lot change", "remainders": "lot",
             "is_normal_lot": "lot", "row_mover": "lot other_lot"}
ONE_LOT = [row_rank, least_rows, remainders, is_normal_lot]


def row(word, letters=2):
    return Row(letters, word)


def lot(*words, letters=2):
    return RowLot(tuple(Row(letters, word) for word in words))


def random_lot(rng, letters, many, size):
    return lot(*(random_word(rng, letters, rng.randint(0, size)) for _ in range(many)), letters=letters)


def steps_and_first_words(form):
    """Return where letters go, and the list of the first words to the places."""
    goals = {(place, letter): goal for place, letter, goal in form}
    goals |= {(goal, letter.upper()): place for place, letter, goal in form}
    words = {0: ""}
    for place in range(2000):
        for way in "aAbBcCdD" if place in words else "":
            if (place, way) in goals:
                words.setdefault(goals[place, way], words[place] + way)
    assert list(words) == sorted(words)
    return goals, list(words.values())


class TestInterface(Case):
    def test_functions(self):
        check_defined(self, folds, FUNCTIONS, {})

    def test_no_lot(self):
        for value in ODD + [row("a"), (row("a"),), "rows 2 a", RowLot, PointLot((Point((1, 2)),))]:
            for call in ONE_LOT:
                self.fails(NotALot, value, call, value)
                self.fails(NotALot, value, call, lot=value)
            self.fails(NotALot, value, walked, value, row("a"))
            self.fails(NotALot, value, walked, value, None)
            self.fails(NotALot, value, row_mover, value, lot("a"))
            self.fails(NotALot, value, row_mover, lot("a"), value)
            self.fails(NotALot, value, row_mover, other_lot=None, lot=value)

    def test_no_change_and_other_world(self):
        for value in ODD + [lot("a"), (row("a"),), "rows 2 a", Point((1, 2))]:
            self.fails(NotAChange, value, walked, lot("a"), value)
            self.fails(NotAChange, value, walked, change=value, lot=lot("a"))
        for letters in (1, 3, 4):
            other = Row(letters, "a")
            self.fails(OtherWorld, other, walked, lot("a"), other)
            other_lot = lot("a", letters=letters)
            self.fails(OtherWorld, other_lot, row_mover, lot("a"), other_lot)


class TestLeastRows(Case):
    def test_rank_and_least_rows(self):
        rng = random.Random(1)
        for _ in range(300):
            letters = rng.randint(1, 4)
            told = random_lot(rng, letters, rng.randint(1, 5), rng.choice([2, 4, 8, 12]))
            self.check(told, letters)

    def check(self, told, letters):
        rank = self.same_by_name(row_rank, told)
        least = least_rows(told)
        self.assertEqual(least, least_rows(lot=told))
        form = row_form(told)
        _, words = steps_and_first_words(form)
        tree = {(place, word[-1]) for place, word in enumerate(words) if word}
        by_hand = []
        for place, letter, goal in form:
            if words[goal] != words[place] + letter and words[place] != words[goal] + letter.upper():
                by_hand.append(struck(words[place] + letter + back(words[goal])))
        self.assertEqual([one.word for one in least], by_hand)
        self.assertTrue(all(one.letters == letters for one in least))
        self.assertEqual(rank, len(form) - len(words) + 1)
        self.assertEqual((rank, len(tree)), (len(least), len(words) - 1))
        if least:
            self.assertEqual(row_form(RowLot(least)), form)
            self.assertEqual(needless_rows(RowLot(least)), ())
        many = row_cosets(told)
        if many is not None:
            self.assertEqual(rank, many * (letters - 1) + 1)

    def test_each_row_comes_in_just_one_reduced_way(self):
        rng = random.Random(2)
        for _ in range(40):
            told = random_lot(rng, 2, rng.randint(1, 3), 5)
            least = [one.word for one in least_rows(told)]
            presses = [(at, sign) for at in range(len(least)) for sign in (1, -1)]
            ways = [way for size in range(4) for way in itertools.product(presses, repeat=size)
                    if all(one != (other[0], -other[1]) for one, other in zip(way, way[1:]))]
            done = ["".join(least[at] if sign > 0 else back(least[at]) for at, sign in way) for way in ways]
            self.assertEqual(len({struck(word) for word in done}), len(ways))

    def test_no_fewer_rows_make_it(self):
        short = words_up_to(2, 2)
        for told in (lot("aa", "bb"), lot("aa", "b", "abA"), lot("a", "b"), lot("abAB"), lot("")):
            rank = row_rank(told)
            for many in range(1, rank):
                for words in itertools.combinations(short, many):
                    self.assertFalse(same_rows(lot(*words), told))

    def test_edges(self):
        for told in (lot(""), lot("", "aA"), lot("", letters=4)):
            self.assertEqual((row_rank(told), least_rows(told)), (0, ()))
        self.assertEqual(least_rows(lot("AAA", letters=1)), (Row(1, "aaa"),))
        self.assertEqual(least_rows(lot("a" * 12, "A" * 8, letters=1)), (Row(1, "aaaa"),))
        self.assertEqual([one.word for one in least_rows(lot("b", "a"))], ["a", "b"])
        self.assertEqual([one.word for one in least_rows(lot("abA"))], ["abA"])
        self.assertEqual(row_rank(lot("a", "bb", "cc", "dd", "dabD", letters=4)), 5)


class TestWalked(Case):
    def test_goes_by_the_ties(self):
        rng = random.Random(3)
        for _ in range(100):
            letters = rng.randint(1, 3)
            told = random_lot(rng, letters, rng.randint(1, 5), 6)
            goals, words = steps_and_first_words(row_form(told))
            for word in words_up_to(letters, 3) + words:
                place = 0
                for letter in word:
                    place = goals.get((place, letter)) if place is not None else None
                got = self.same_by_name(walked, told, Row(letters, word))
                self.assertEqual(got, place)
                self.assertEqual(got == 0, row_makes(told, Row(letters, word)))
            self.assertEqual([walked(told, Row(letters, word)) for word in words], list(range(len(words))))

    def test_edges(self):
        self.assertEqual(walked(lot(""), row("")), 0)
        self.assertIsNone(walked(lot(""), row("a")))
        self.assertEqual(walked(lot("aa", letters=1), Row(1, "a" * 399)), 1)
        self.assertIsNone(walked(lot("aab"), row("b" * 400)))
        self.assertIs(walked(lot("aa", "b", "abA"), row("ba")).__class__, int)


class TestRemainders(Case):
    def test_each_row_is_a_row_of_the_lot_then_one_of_them(self):
        rng = random.Random(4)
        finite = 0
        for _ in range(300):
            letters = rng.choice([1, 2, 2, 2])
            told = random_lot(rng, letters, rng.randint(1, 5), 4)
            found = remainders(told)
            self.assertEqual(found, remainders(lot=told))
            self.assertEqual(found is None, row_cosets(told) is None)
            if found is not None:
                finite += 1
                self.assertEqual([one.word for one in found], steps_and_first_words(row_form(told))[1])
                self.assertEqual(len(found), row_cosets(told))
                for word in words_up_to(letters, 4):
                    fits = [one for one in found if row_makes(told, Row(letters, struck(word + back(one.word))))]
                    self.assertEqual(len(fits), 1)
        self.assertGreater(finite, 40)

    def test_edges(self):
        self.assertIsNone(remainders(lot("")))
        self.assertIsNone(remainders(lot("a")))
        self.assertEqual(remainders(lot("a", letters=1)), (Row(1, ""),))
        self.assertEqual(remainders(lot("aaa", letters=1)), (Row(1, ""), Row(1, "a"), Row(1, "A")))
        self.assertEqual([str(one) for one in remainders(lot("aa", "b", "abA"))], ["rows 2 -", "rows 2 a"])
        self.assertEqual([one.word for one in remainders(lot("aa", "b", "abbA", "abaBA"))], ["", "a", "ab"])


class TestByExchanges(Case):
    """Two exchanges of a few places make a web in which each letter goes from each place."""

    def lots(self):
        for many in (1, 2, 3, 4):
            for exchanges in itertools.product(itertools.permutations(range(many)), repeat=2):
                form = [(place, letter, exchange[place]) for letter, exchange in zip("ab", exchanges)
                        for place in range(many)]
                goals = {(place, letter): goal for place, letter, goal in form}
                goals |= {(goal, letter.upper()): place for place, letter, goal in form}
                words = {0: ""}
                while any(goals[place, way] not in words for place in list(words) for way in "aAbB"):
                    for place, way in itertools.product(list(words), "aAbB"):
                        words.setdefault(goals[place, way], words[place] + way)
                if len(words) == many:
                    loops = [struck(words[place] + letter + back(words[goal])) for place, letter, goal in form]
                    yield many, goals, lot(*(loop for loop in loops if loop))

    def test_remainders_ways_and_normal_lots(self):
        normal = []
        for many, goals, told in self.lots():
            self.assertEqual((row_cosets(told), row_rank(told)), (many, many + 1))
            for word in words_up_to(2, 3):
                place = 0
                for letter in word:
                    place = goals[place, letter]
                self.assertEqual(walked(told, row(word)) == 0, place == 0)
            found = [one.word for one in remainders(told)]
            self.assertEqual(found, steps_and_first_words(row_form(told))[1])
            self.assertEqual([walked(told, row(word)) for word in found], list(range(many)))
            expected = TestNormal.plainly(None, told, 2)
            self.assertIs(is_normal_lot(told), expected)
            normal.append((many, expected))
        self.assertEqual([normal.count((3, True)), normal.count((4, True))], [8, 42])
        self.assertEqual([normal.count((3, False)), normal.count((4, False))], [18, 384])

    def test_moved_by_going_to_another_place(self):
        for many, goals, told in self.lots():
            word = "ab" * (many % 3)
            other = lot(*(struck(word + one.word + back(word)) for one in told.changes))
            found = row_mover(told, other)
            self.assertTrue(TestMover.moves(None, told, other, found.word))


class TestNormal(Case):
    def plainly(self, told, letters):
        """Each told row put between a letter and its opposite is in the lot, so also all alike ones."""
        return all(row_makes(told, Row(letters, struck(way + change.word + way.swapcase())))
                   for change in told.changes for way in "aAbBcCdD"[:2 * letters])

    def test_against_single_letters_around(self):
        rng = random.Random(5)
        normal = 0
        for _ in range(500):
            letters = rng.choice([1, 2, 2, 3])
            told = random_lot(rng, letters, rng.randint(1, 5), 4)
            expected = self.plainly(told, letters)
            self.assertIs(self.same_by_name(is_normal_lot, told), expected)
            normal += expected and row_cosets(told) not in (None, 1)
        self.assertGreater(normal, 5)

    def test_edges(self):
        self.assertIs(is_normal_lot(lot("")), True)
        self.assertIs(is_normal_lot(lot("aA", "")), True)
        self.assertIs(is_normal_lot(lot("a" * 7, letters=1)), True)
        self.assertIs(is_normal_lot(lot("a")), False)
        self.assertIs(is_normal_lot(lot("aa", "b", "abA")), True)
        self.assertIs(is_normal_lot(lot("aaa", "b", "abA", "Aba")), True)
        self.assertIs(is_normal_lot(lot("aa", "ab", "ba")), True)
        self.assertIs(is_normal_lot(lot("aa", "b", "abbA", "abaBA")), False)
        self.assertEqual(row_cosets(lot("aa", "b", "abbA", "abaBA")), 3)


class TestMover(Case):
    def moves(self, told, other, word):
        """Return whether a row ahead, and its undone one behind, makes the first lot the other one."""
        letters = told.changes[0].letters
        there = all(row_makes(other, Row(letters, struck(word + one.word + back(word)))) for one in told.changes)
        return there and all(row_makes(told, Row(letters, struck(back(word) + one.word + word)))
                             for one in other.changes)

    def test_moved_lots(self):
        rng = random.Random(6)
        moved = 0
        while moved < 200:
            letters = rng.randint(1, 4)
            told = random_lot(rng, letters, rng.randint(1, 4), rng.choice([2, 4, 8]))
            ahead = random_word(rng, letters, rng.randrange(5))
            words = [struck(ahead + one.word + back(ahead)) for one in told.changes]
            if max(map(len, words)) <= 12:
                moved += 1
                other = lot(*words, letters=letters)
                found = row_mover(told, other)
                self.assertEqual(found.letters, letters)
                self.assertTrue(self.moves(told, other, found.word))
                self.assertEqual(found, row_mover(other_lot=other, lot=told))

    def test_against_a_plain_search(self):
        rng = random.Random(7)
        ahead = words_up_to(2, 4)
        none = 0
        for _ in range(300):
            told, other = random_lot(rng, 2, rng.randint(1, 3), 3), random_lot(rng, 2, rng.randint(1, 3), 3)
            found = row_mover(told, other)
            if found is None:
                none += 1
                self.assertFalse(any(self.moves(told, other, word) for word in ahead))
            else:
                self.assertTrue(self.moves(told, other, found.word))
        self.assertGreater(none, 50)

    def test_edges(self):
        self.assertTrue(self.moves(lot("aab"), lot("aab"), row_mover(lot("aab"), lot("aab")).word))
        self.assertIsNotNone(row_mover(lot(""), lot("", "aA")))
        self.assertIsNone(row_mover(lot(""), lot("a")))
        self.assertIsNone(row_mover(lot("a"), lot("")))
        self.assertIsNone(row_mover(lot("a"), lot("aa")))
        self.assertIsNone(row_mover(lot("a"), lot("b")))
        self.assertIsNotNone(row_mover(lot("a"), lot("A")))
        self.assertIsNone(row_mover(lot("aa", "b"), lot("a", "bb")))

    def test_one_core_that_hangs_at_another_place(self):
        for one, other in [(("baabB",), ("aab",)), (("aabb", "ab"), ("abba", "ba")),
                           (("bbaBB", "bbbb"), ("a", "bbbb")), (("abA", "aaaA"), ("b", "aa")),
                           (("bbbbabBBBB",), ("aabA",))]:
            one, other = lot(*one), lot(*other)
            found = row_mover(one, other)
            plain = [word for word in words_up_to(2, 5) if self.moves(one, other, word)]
            self.assertEqual(found is not None, bool(plain), (str(one), str(other)))
            if found is not None:
                self.assertTrue(self.moves(one, other, found.word))

    def test_greatest_webs(self):
        one = lot("a" * 5 + "bb" + "A" * 5, "a" * 5 + "cB" + "A" * 5, letters=3)
        for words in (("bbbcBB", "bb"), ("bcBB", "bb"), ("bb", "cB"), ("bb", "cb"), ("Bc", "bb"), ("cc", "bc")):
            other = lot(*words, letters=3)
            found = row_mover(one, other)
            plain = [word for word in words_up_to(3, 3) if self.moves(one, other, struck(word + "A" * 5))]
            self.assertEqual(found is not None, bool(plain), words)
            if found is not None:
                self.assertTrue(self.moves(one, other, found.word))


if __name__ == "__main__":
    unittest.main()
