"""Rows: words, texts, what is done with one or two rows, errors and their order, edges."""

import random
import unittest

from helpers import Case, ODD, back, check_defined, random_word, struck, words_up_to
from pressworlds import rows
from pressworlds.errors import (InvalidLetters, InvalidNumber, InvalidText, InvalidWord, NotAChange, OtherWorld,
                                TooGreat)
from pressworlds.rows import (Row, do_rows_commute, is_row_alike, root_of_row, row_alike, row_gap, row_least,
                              row_often, row_order, row_root, row_then, row_turns, row_undone)

TWO = "one other"
FUNCTIONS = {"row_then": TWO, "row_undone": "one", "row_often": "one times", "row_order": "one", "row_gap": TWO,
             "is_row_alike": TWO, "row_alike": TWO, "do_rows_commute": TWO, "row_root": "one degree",
             "root_of_row": "row", "row_turns": "row", "row_least": "row"}
CLASSES = {"Row": ("letters word", "__init__ read letters word __str__ __len__ __eq__")}
ONE_ROW = [row_undone, row_order, root_of_row, row_turns, row_least]
TWO_ROWS = [row_then, row_gap, is_row_alike, row_alike, do_rows_commute]
NO_ROWS = ODD + ["rows 2 -", "abA", ("rows", 2, "a"), Row]


def row(word, letters=2):
    return Row(letters, word)


class TestClass(Case):
    def test_interface(self):
        check_defined(self, rows, FUNCTIONS, CLASSES)

    def test_properties_by_position_and_by_name(self):
        for made in (Row(3, "abC"), Row(letters=3, word="abC"), Row(word="abC", letters=3), Row.read("rows 3 abC"),
                     Row.read(text="rows 3 abC")):
            self.assertEqual((made.letters, made.word, str(made), len(made)), (3, "abC", "rows 3 abC", 3))

    def test_word_is_reduced(self):
        for word, left in [("aA", ""), ("bBb", "b"), ("abBA", ""), ("aAa", "a"), ("AaA", "A"), ("abBAb", "b"),
                           ("abAB", "abAB"), ("aabBAb", "ab"), ("a" * 200 + "A" * 200, ""), ("aB", "aB"),
                           ("ab" * 100 + "BA" * 99, "ab")]:
            self.assertEqual((row(word).word, len(row(word))), (left, len(left)))
        rng = random.Random(1)
        for _ in range(300):
            word = "".join(rng.choice("aAbBcC") for _ in range(rng.randrange(60)))
            self.assertEqual(Row(3, word).word, struck(word))

    def test_whichever_neighbours_are_struck_first(self):
        rng = random.Random(2)
        for _ in range(200):
            word = start = "".join(rng.choice("aAbB") for _ in range(20))
            while True:
                places = [at for at in range(len(word) - 1) if word[at] == word[at + 1].swapcase()]
                if not places:
                    break
                at = rng.choice(places)
                word = word[:at] + word[at + 2:]
            self.assertEqual(row(start).word, word)

    def test_texts(self):
        for letters, word, text in [(2, "abA", "rows 2 abA"), (1, "", "rows 1 -"), (4, "dD", "rows 4 -"),
                                    (4, "dCbA", "rows 4 dCbA"), (1, "A" * 400, "rows 1 " + "A" * 400)]:
            self.assertEqual(str(Row(letters, word)), text)
            self.assertEqual(Row.read(text), Row(letters, word))

    def test_wrong_texts(self):
        wrong = ["", "rows", "rows 2", "rows 2 ", "rows 2 aA", "rows 2 abBA", "rows 2 --", "rows 2 -a", "rows 2 a-",
                 "rows 02 a", "rows +2 a", "rows 0 -", "rows 5 a", "rows -1 a", "rows 1 b", "rows 2 c", "rows 2 a ",
                 " rows 2 a", "rows  2 a", "rows 2  a", "rows 2 a\n", "\nrows 2 a", "rows 2 a\nrows 2 b", "Rows 2 a",
                 "rows2 a", "rows 2 a a", "rows 2 1", "grid 2 1 1", "ruler + 1", "rows 1 " + "a" * 401, "rows a 2",
                 "rows 2.0 a", "rows 2 'a'", "rows 2 a+", "rows 2 a0"]
        for text in wrong + ODD:
            if text != "rows 2 ab":
                self.fails(InvalidText, text, Row.read, text)
                self.fails(InvalidText, text, Row.read, text=text)

    def test_equal_exactly_if_texts_are(self):
        some = [Row(letters, word) for letters in (1, 2, 3) for word in ("", "a", "A", "aA", "aa", "Aa" + "a")]
        for one in some:
            for other in some:
                self.assertEqual(one == other, str(one) == str(other))
                self.assertEqual(one != other, str(one) != str(other))
        self.assertIs(Row(1, "a") == Row(1, "a"), True)
        self.assertIs(Row(1, "a") != Row(1, "a"), False)

    def test_never_equal_to_other_values(self):
        for value in ODD + ["rows 1 -", (1, ""), ["a"]]:
            self.assertIs(Row(1, "") == value, False)
            self.assertIs(value == Row(1, ""), False)
            self.assertIs(Row(1, "") != value, True)

    def test_true_also_with_no_letters(self):
        self.assertIs(bool(Row(1, "")), True)
        self.assertEqual(len(Row(1, "")), 0)
        self.assertIs(bool(Row(1, "a")), True)

    def test_does_not_change(self):
        made = Row(2, "ab")
        for name in ("letters", "word"):
            with self.assertRaises(AttributeError):
                setattr(made, name, getattr(made, name))
        row_then(made, made), row_undone(made), row_often(made, 5), row_gap(made, Row(2, "a"))
        self.assertEqual(str(made), "rows 2 ab")

    def test_wrong_letters_ahead_of_wrong_word(self):
        for letters in [True, False, None, 0, 5, -1, 10 ** 40, "2", (2,), [2], "", object(), {}, b"2", Row(2, "a")]:
            for word in ("a", "z", None):
                self.fails(InvalidLetters, letters, Row, letters, word)
                self.fails(InvalidLetters, letters, Row, word=word, letters=letters)

    def test_wrong_words(self):
        long = "a" * 401
        for word in [None, True, 1, 0, (), ("a",), ["a"], [], b"a", "c", "C", "ab c", "a ", " ", "-", "a\n", "1", "ae",
                     long, long + "A", "aA" * 200 + "a", Row(2, "a"), object(), {}]:
            self.fails(InvalidWord, word, Row, 2, word)
        self.assertEqual(Row(2, "aA" * 200).word, "")
        self.assertEqual(len(Row(2, "ab" * 200)), 400)
        for letters in (1, 2, 3, 4):
            for at, letter in enumerate("abcd"):
                for sign in (letter, letter.upper()):
                    if at < letters:
                        self.assertEqual(Row(letters, sign).word, sign)
                    else:
                        self.fails(InvalidWord, sign, Row, letters, sign)


class TestDone(Case):
    def test_then_and_undone(self):
        rng = random.Random(3)
        for _ in range(300):
            letters = rng.randint(1, 4)
            one, other = random_word(rng, letters, rng.randrange(30)), random_word(rng, letters, rng.randrange(30))
            if rng.random() < 0.5:
                other = (back(one) + other)[rng.randrange(5):][:60]
            first, second = Row(letters, one), Row(letters, other)
            done = self.same_by_name(row_then, first, second)
            self.assertEqual((done.letters, done.word), (letters, struck(one + struck(other))))
            undone = self.same_by_name(row_undone, first)
            self.assertEqual((undone.letters, undone.word), (letters, back(one)))
            self.assertEqual(row_then(first, undone).word, "")
            self.assertEqual(row_then(undone, first).word, "")

    def test_often(self):
        for word in words_up_to(2, 4):
            for times in range(-5, 6):
                done = self.same_by_name(row_often, row(word), times)
                self.assertEqual(done.word, struck((word if times > 0 else back(word)) * abs(times)))

    def test_often_with_numbers_of_40_digits(self):
        many = 10 ** 39 + 7
        self.assertEqual(row_often(row(""), many), row(""))
        self.assertEqual(row_often(row(""), -many), row(""))
        self.fails(TooGreat, many, row_often, row("b"), many)
        self.fails(TooGreat, many, row_often, row("b"), -many)
        self.fails(TooGreat, 2 * many + 2, row_often, row("abbA"), many)

    def test_too_great(self):
        self.assertEqual(len(row_often(row("a"), 400)), 400)
        self.assertEqual(len(row_often(row("a"), -400)), 400)
        self.fails(TooGreat, 401, row_often, row("a"), 401)
        self.fails(TooGreat, 401, row_often, row("a"), -401)
        self.assertEqual(len(row_often(row("abA"), 398)), 400)
        self.fails(TooGreat, 401, row_often, row("abA"), 399)
        self.assertEqual(len(row_often(row("ab" * 200), 1)), 400)
        self.assertEqual(row_often(row("ab" * 200), 0), row(""))
        self.assertEqual(row_often(row("a" * 150 + "b" * 100 + "A" * 150), 0), row(""))
        self.fails(TooGreat, 500, row_often, row("a" * 150 + "b" * 100 + "A" * 150), 2)
        long = row("ab" * 200)
        self.assertEqual(len(row_then(row("b" * 200), row("a" * 200))), 400)
        self.fails(TooGreat, 401, row_then, long, row("a"))
        self.fails(TooGreat, 800, row_then, long, long)
        self.assertEqual(len(row_then(long, row("B"))), 399)
        self.assertEqual(row_then(long, row_undone(long)), row(""))

    def test_gap(self):
        for one in words_up_to(2, 2):
            for other in words_up_to(2, 2):
                gap = self.same_by_name(row_gap, row(one), row(other))
                self.assertEqual(gap.word, struck(one + other + back(one) + back(other)))
        self.assertEqual(len(row_gap(row("a" * 100), row("b" * 100))), 400)
        self.fails(TooGreat, 402, row_gap, row("a" * 101), row("b" * 100))
        self.fails(TooGreat, 1598, row_gap, row("ab" * 200), row("ba" * 199 + "bb"))
        long = row("ab" * 200)
        self.assertEqual(row_gap(long, long), row(""))
        self.assertEqual(row_gap(long, row("ab" * 199)), row(""))

    def test_order(self):
        self.assertEqual(self.same_by_name(row_order, row("")), 1)
        for word in words_up_to(2, 3)[1:]:
            self.assertIsNone(row_order(row(word)))
            for times in (1, 2, 3, -1, -2, 50):
                self.assertNotEqual(row_often(row(word), times), row(""))


class TestErrors(Case):
    def test_no_row(self):
        good = row("ab")
        for value in NO_ROWS:
            for call in ONE_ROW:
                self.fails(NotAChange, value, call, value)
            for call in TWO_ROWS:
                self.fails(NotAChange, value, call, value, good)
                self.fails(NotAChange, value, call, good, value)
                self.fails(NotAChange, value, call, value, None)
                self.fails(NotAChange, value, call, other=Row(3, "c"), one=value)
            for call in (row_often, row_root):
                self.fails(NotAChange, value, call, value, 2)
                self.fails(NotAChange, value, call, value, None)

    def test_other_world(self):
        for call in TWO_ROWS:
            for letters in (1, 3, 4):
                other = Row(letters, "a")
                self.fails(OtherWorld, other, call, row("a"), other)
                self.fails(OtherWorld, other, call, one=row("a"), other=other)
        long = Row(3, "ab" * 200)
        self.fails(OtherWorld, long, row_then, row("ab" * 200), long)
        self.fails(OtherWorld, long, row_gap, row("ab" * 200), long)

    def test_no_times(self):
        for times in [None, True, False, "1", (1,), [1], (), {}, b"1", row("a")]:
            self.fails(InvalidNumber, times, row_often, row("a" * 400), times)

    def test_no_degree(self):
        for degree in [None, True, False, "1", (1,), [1], 0, -1, -10 ** 40, row("a")]:
            self.fails(InvalidNumber, degree, row_root, row("a"), degree)


class TestLikeness(Case):
    def test_against_a_plain_search(self):
        small, ahead = words_up_to(2, 3), words_up_to(2, 4)
        for one in small:
            likes = {struck(c + one + back(c)) for c in ahead}
            for other in small:
                self.assertEqual(self.same_by_name(is_row_alike, row(one), row(other)), other in likes, (one, other))
                shown = row_alike(row(one), row(other))
                self.assertEqual(shown is not None, other in likes)
                if shown is not None:
                    self.assertEqual(struck(shown.word + one + back(shown.word)), other)

    def test_long_ones(self):
        rng = random.Random(4)
        for _ in range(200):
            letters = rng.randint(1, 4)
            part = random_word(rng, letters, rng.randint(1, 30)) * rng.randint(1, 4)
            one = Row(letters, part)
            ahead = random_word(rng, letters, rng.randrange(60))
            other = Row(letters, struck(ahead + part + back(ahead)))
            shown = self.same_by_name(row_alike, one, other)
            self.assertEqual(struck(shown.word + one.word + back(shown.word)), other.word)
            self.assertIs(is_row_alike(one, other), True)
            self.assertEqual(is_row_alike(one, row_undone(one)), one.word == "")

    def test_greatest_necks(self):
        one, other = row("a" * 199 + "bb" + "A" * 199), row("Ab" * 99 + "Abba" + "Ba" * 99)
        shown = row_alike(one, other)
        self.assertEqual(struck(shown.word + one.word + back(shown.word)), other.word)

    def test_still_rows_are_alike_to_themselves_alone(self):
        self.assertIs(is_row_alike(row(""), row("aA")), True)
        self.assertEqual(row_then(row_alike(row(""), row("")), row("")).word,
                         row_alike(row(""), row("")).word)
        self.assertIs(is_row_alike(row(""), row("a")), False)
        self.assertIsNone(row_alike(row("a"), row("")))

    def test_turns(self):
        for word in words_up_to(2, 5):
            turns = self.same_by_name(row_turns, row(word))
            likes = {struck(c + word + back(c)) for c in words_up_to(2, 3)}
            fewest = min(map(len, likes))
            self.assertEqual([turn.word for turn in turns], sorted(like for like in likes if len(like) == fewest))
            self.assertTrue(all(turn.letters == 2 for turn in turns))
            self.assertEqual(self.same_by_name(row_least, row(word)), turns[0])
        self.assertIs(row_turns(row("ab")).__class__, tuple)
        self.assertEqual([str(turn) for turn in row_turns(Row(3, ""))], ["rows 3 -"])
        self.assertEqual(str(row_least(Row(3, "cC"))), "rows 3 -")
        self.assertEqual([turn.word for turn in row_turns(row("abab"))], ["abab", "baba"])
        self.assertEqual([turn.word for turn in row_turns(row("aBA"))], ["B"])
        self.assertEqual([turn.word for turn in row_turns(row("aB"))], ["Ba", "aB"])
        self.assertEqual(len(row_turns(row("a" * 399 + "b"))), 400)


class TestRoots(Case):
    def test_against_a_plain_search(self):
        small = words_up_to(2, 5)
        for degree in (1, 2, 3, 4, 5, 6):
            roots = {}
            for word in small:
                roots.setdefault(struck(word * degree), []).append(word)
            for word in small:
                found = self.same_by_name(row_root, row(word), degree)
                self.assertEqual([found.word] if found is not None else [], roots.get(word, []), (word, degree))

    def test_root_and_exponent(self):
        for word in words_up_to(2, 6):
            root, exponent = root_of_row(row(word))
            self.assertEqual((root.letters, struck(root.word * exponent)), (2, word))
            degrees = [degree for degree in range(1, 8) if row_root(row(word), degree) is not None]
            self.assertEqual(exponent, max(degrees) if word else 0)
            self.assertEqual(root, row_root(row(word), exponent) if word else row(""))

    def test_edges(self):
        found = self.same_by_name(root_of_row, row("abbA"))
        self.assertIs(found.__class__, tuple)
        self.assertEqual((str(found[0]), found[1]), ("rows 2 abA", 2))
        self.assertEqual(root_of_row(Row(1, "A" * 400)), (Row(1, "A"), 400))
        self.assertEqual(root_of_row(Row(1, "")), (Row(1, ""), 0))
        self.assertEqual(row_root(row(""), 10 ** 40), row(""))
        self.assertIsNone(row_root(row("a"), 10 ** 40))
        self.assertEqual(row_root(row("A" * 400), 400), row("A"))
        self.assertEqual(row_root(row("ab" * 200), 100), row("abab"))
        self.assertIsNone(row_root(row("ab" * 200), 400))


class TestCommuting(Case):
    def test_against_a_plain_search(self):
        small = words_up_to(2, 3)
        for one in small:
            for other in small:
                plain = struck(one + other) == struck(other + one)
                self.assertEqual(self.same_by_name(do_rows_commute, row(one), row(other)), plain)
                roots = root_of_row(row(one))[0], root_of_row(row(other))[0]
                self.assertEqual(plain, not one or not other or roots[0] == roots[1]
                                 or roots[0] == row_undone(roots[1]))

    def test_too_great_for_one_row(self):
        self.assertIs(do_rows_commute(row("ab" * 200), row("ab" * 199)), True)
        self.assertIs(do_rows_commute(row("ab" * 200), row("BA" * 200)), True)
        self.assertIs(do_rows_commute(row("ab" * 200), row("ab" * 199 + "a")), False)


if __name__ == "__main__":
    unittest.main()
