"""Lots of rows: texts, forms, cosets, what is made, common parts, needless ones, errors and their order."""

import itertools
import random
import unittest

from helpers import Case, ODD, back, check_defined, random_word, struck, words_up_to
from pressworlds import rowlots
from pressworlds.errors import InvalidChanges, InvalidPlan, InvalidText, NotAChange, NotALot, OtherWorld, TooFar
from pressworlds.rowlots import (RowLot, needless_rows, row_cosets, row_doing, row_form, row_makes, row_meet, row_plan,
                                 rows_within, same_rows)
from pressworlds.rows import Row

LOTS = "lot other_lot"
FUNCTIONS = {"row_form": "lot", "row_cosets": "lot", "row_makes": "lot change", "row_plan": "lot change",
             "row_doing": "lot plan", "same_rows": LOTS, "rows_within": LOTS, "row_meet": LOTS, "needless_rows": "lot"}
CLASSES = {"RowLot": ("changes", "__init__ read changes text __str__ __len__ __eq__")}
NO_LOTS = ODD + [Row(2, "a"), (Row(2, "a"),), "rows 2 a", RowLot]
NO_CHANGES = ODD + [RowLot((Row(2, "a"),)), (Row(2, "a"),), "rows 2 a", Row]


def row(word, letters=2):
    return Row(letters, word)


def lot(*words, letters=2):
    return RowLot(tuple(Row(letters, word) for word in words))


def steps(form):
    """Return where letters go, and check on the way that the web is folded and its ties ascend."""
    goals = {}
    for place, letter, goal in form:
        assert (place, letter) not in goals and (goal, letter.upper()) not in goals
        goals[place, letter], goals[goal, letter.upper()] = goal, place
    assert list(form) == sorted(set(form)) and isinstance(form, tuple)
    return goals


def walk(goals, word):
    place = 0
    for letter in word:
        place = goals.get((place, letter))
        if place is None:
            return None
    return place


def random_lot(rng, letters, many, size):
    return lot(*(random_word(rng, letters, rng.randint(0, size)) for _ in range(many)), letters=letters)


def made_up_to(told, most, longest):
    """Return the words up to a length that come of told ones with nothing longer than a bound on the way."""
    presses = [press for word in told for press in (word, back(word))]
    found, last = {""}, [""]
    while last:
        new = {struck(word + press) for word in last for press in presses}
        last = [word for word in new if len(word) <= longest and word not in found]
        found.update(last)
    return {word for word in found if len(word) <= most}


class TestClass(Case):
    def test_interface(self):
        check_defined(self, rowlots, FUNCTIONS, CLASSES)

    def test_properties(self):
        told = (row("aa"), row("bA"), row(""))
        text = "rows 2 aa\nrows 2 bA\nrows 2 -"
        for made in (RowLot(told), RowLot(changes=told), RowLot.read(text), RowLot.read(text=text)):
            self.assertEqual((made.changes, made.text, str(made), len(made)), (told, text, text, 3))
            self.assertIs(made.changes.__class__, tuple)
            self.assertIs(bool(made), True)

    def test_does_not_change(self):
        made = lot("ab")
        for name in ("changes", "text"):
            with self.assertRaises(AttributeError):
                setattr(made, name, None)
        row_plan(made, row("abab")), row_meet(made, made), needless_rows(made)
        self.assertEqual(made, lot("ab"))

    def test_equal_exactly_if_texts_are(self):
        some = [lot("a"), lot("a", "a"), lot("a", "b"), lot("b", "a"), lot("a", letters=1), lot("aAa"), lot("")]
        for one in some:
            for other in some:
                self.assertEqual(one == other, str(one) == str(other))
                self.assertEqual(one != other, str(one) != str(other))
        for value in ODD + [row("a"), "rows 2 a", (row("a"),)]:
            self.assertIs(lot("a") == value, False)
            self.assertIs(value == lot("a"), False)
            self.assertIs(lot("a") != value, True)

    def test_wrong_changes(self):
        good = row("a")
        for value in ODD + [[good], good, "rows 2 a", lot("a"), {good.word: good}]:
            if not isinstance(value, tuple) or not value:
                self.fails(InvalidChanges, None, RowLot, value)
                self.fails(InvalidChanges, None, RowLot, changes=value)
        for value in ODD + ["rows 2 a", lot("a"), (good,), row("a" * 13), row("ab" * 200), Row(1, "a"), Row(3, "a")]:
            for at in range(1, 5):
                self.fails(InvalidChanges, at, RowLot, (good,) * at + (value,))
                self.fails(InvalidChanges, at, RowLot, (good,) * at + (value, None, good, good, good, good))
        for value in ODD + [row("a" * 13)]:
            self.fails(InvalidChanges, 0, RowLot, (value, good))
        self.fails(InvalidChanges, 5, RowLot, (good,) * 6)
        self.fails(InvalidChanges, 5, RowLot, (good,) * 5 + (None,))
        self.fails(InvalidChanges, 5, RowLot, (good,) * 9)
        self.fails(InvalidChanges, 1, RowLot, (Row(1, "a"), row("a"), Row(1, "a")))
        self.assertEqual(len(RowLot((good,) * 5)), 5)

    def test_small_rows(self):
        for letters in (1, 2, 3, 4):
            self.assertEqual(len(lot("a" * 12, letters=letters)), 1)
            self.fails(InvalidChanges, 0, RowLot, (Row(letters, "A" * 13),))
        self.assertEqual(str(lot("a" * 12 + "bB")), "rows 2 " + "a" * 12)
        self.assertEqual(str(lot("ab" * 100 + "BA" * 99)), "rows 2 ab")

    def test_wrong_texts(self):
        wrong = ["", "\n", "rows 2 a\n", "\nrows 2 a", "rows 2 a\n\nrows 2 b", "rows 2 a rows 2 b", "rows 2 aA",
                 "rows 2 a\nrows 3 a", "rows 2 " + "a" * 13, "rows 2 a\nrows 2 aA", "rows 2 a \nrows 2 b", "ruler + 1",
                 "\n".join(["rows 2 a"] * 6), "rows 2 a\r\nrows 2 b", "rows 2 a, rows 2 b", "rows 02 a", "rows 5 a"]
        for text in wrong + [value for value in ODD if value != "rows 2 ab"]:
            self.fails(InvalidText, text, RowLot.read, text)
            self.fails(InvalidText, text, RowLot.read, text=text)
        self.assertEqual(len(RowLot.read("\n".join(["rows 2 a"] * 5))), 5)


class TestErrors(Case):
    one_lot = [row_form, row_cosets, needless_rows]
    two_lots = [same_rows, rows_within, row_meet]
    with_change = [row_makes, row_plan]

    def test_no_lot(self):
        good = lot("ab")
        for value in NO_LOTS:
            for call in self.one_lot:
                self.fails(NotALot, value, call, value)
                self.fails(NotALot, value, call, lot=value)
            for call in self.two_lots:
                self.fails(NotALot, value, call, value, good)
                self.fails(NotALot, value, call, good, value)
                self.fails(NotALot, value, call, value, None)
                self.fails(NotALot, value, call, other_lot=lot("c", letters=3), lot=value)
            for call in self.with_change:
                self.fails(NotALot, value, call, value, row("a"))
                self.fails(NotALot, value, call, value, None)
            self.fails(NotALot, value, row_doing, value, ())
            self.fails(NotALot, value, row_doing, value, None)

    def test_no_change(self):
        for value in NO_CHANGES:
            for call in self.with_change:
                self.fails(NotAChange, value, call, lot("ab"), value)
                self.fails(NotAChange, value, call, change=value, lot=lot("ab"))

    def test_other_world(self):
        for letters in (1, 3, 4):
            other_lot = lot("a", letters=letters)
            for call in self.two_lots:
                self.fails(OtherWorld, other_lot, call, lot("a"), other_lot)
            for word in ("", "a", "a" * 201, "a" * 400):
                other = Row(letters, word)
                for call in self.with_change:
                    self.fails(OtherWorld, other, call, lot("a"), other)

    def test_too_far(self):
        for told in (lot("a"), lot("b"), lot("a" * 12)):
            far = row("a" * 201)
            self.fails(TooFar, far, row_plan, told, far)
            self.fails(TooFar, far, row_plan, change=far, lot=told)
        self.assertIsNone(row_plan(lot("b"), row("a" * 200)))
        self.assertIsNotNone(row_plan(lot("a"), row("a" * 200)))
        self.assertIs(row_makes(lot("aa"), row("a" * 400)), True)
        self.assertIs(row_makes(lot("aa"), row("a" * 399)), False)

    def test_no_plan(self):
        good = lot("a", "b")
        deep = ((0, 1),)
        for _ in range(5):
            deep = ((deep, 1),)
        wrong = [value for value in ODD if value not in [(), ((0, 1),)]]
        wrong += [(0, 1), ((0, 1), 1), ((2, 1),), ((-1, 1),), ((0, 0),), ((0, 1, 1),), ((0,),), (((0, 1), 1),),
                  [(0, 1)], ([0, 1],), ((0, True),), ((True, 1),), ((0, None),), ((None, 1),), ((0, "1"),),
                  (("0", 1),), ((10 ** 40, 1),), ((((0, 0),), 1),), (([(0, 1)], 1),), ((0, 1), None), deep,
                  ((((),), 1),), ((((), 0),), 1), (((0, 1), (1, 1), (2, 1)),), ((False, 1),), ((0, 1), (0, False)),
                  ((((0, 1), (7, 1)), 1),), (row("a"), 1), ((row("a"), 1),), "01", row("a"), good]
        for value in wrong:
            self.fails(InvalidPlan, value, row_doing, good, value)
            self.fails(InvalidPlan, value, row_doing, plan=value, lot=good)


class TestForms(Case):
    def test_still_rows_alone(self):
        for told in (lot(""), lot("aA"), lot("", "bB", ""), lot("", letters=4)):
            self.assertEqual(row_form(told), ())
            self.assertIsNone(row_cosets(told))
            self.assertIs(row_makes(told, Row(told.changes[0].letters, "")), True)
            self.assertIs(row_makes(told, Row(told.changes[0].letters, "a")), False)

    def test_one_letter(self):
        for one in range(13):
            for other in range(-12, 13):
                told = lot("a" * one, ("a" if other > 0 else "A") * abs(other), letters=1)
                step = next((n for n in range(1, 13) if one % n == other % n == 0 and not any(
                    one % m == other % m == 0 for m in range(n + 1, 13))), 0) if one or other else 0
                self.assertEqual(row_cosets(told), step or None)
                for times in range(-30, 31):
                    made = row_makes(told, Row(1, ("a" if times > 0 else "A") * abs(times)))
                    self.assertEqual(made, times % step == 0 if step else times == 0)

    def test_numbering_goes_by_letters_small_ones_first(self):
        self.assertEqual(row_form(lot("BA")), ((0, "a", 1), (1, "b", 0)))
        self.assertEqual(row_form(lot("Ab")), ((1, "a", 0), (1, "b", 0)))
        self.assertEqual(row_form(lot("aaa")), ((0, "a", 1), (1, "a", 2), (2, "a", 0)))
        self.assertEqual(row_form(lot("abAB")), ((0, "a", 1), (0, "b", 2), (1, "b", 3), (2, "a", 3)))
        self.assertEqual(row_form(lot("abA")), ((0, "a", 1), (1, "b", 1)))
        self.assertEqual(row_form(lot("a", "b")), ((0, "a", 0), (0, "b", 0)))
        self.assertEqual(row_form(lot("Dc", letters=4)), ((1, "c", 0), (1, "d", 0)))

    def test_forms_are_folded_webs_that_let_what_is_told(self):
        rng = random.Random(1)
        for _ in range(300):
            letters = rng.randint(1, 4)
            told = random_lot(rng, letters, rng.randint(1, 5), rng.choice([2, 4, 12]))
            form = self.same_by_name(row_form, told)
            goals = steps(form)
            for change in told.changes:
                self.assertEqual(walk(goals, change.word), 0)
            places = {place for place, _, goal in form} | {goal for _, _, goal in form} | {0}
            self.assertEqual(places, set(range(len(places))))
            degrees = {place: sum((place, way) in goals for way in "aAbBcCdD") for place in places}
            self.assertTrue(all(degrees[place] > 1 for place in places if place))
            self.check_numbering(goals, places)

    def check_numbering(self, goals, places):
        met = [0]
        for place in met:
            met += [goal for goal in dict.fromkeys(goals.get((place, way)) for way in "aAbBcCdD")
                    if goal is not None and goal not in met]
        self.assertEqual(met, sorted(places))

    def test_form_does_not_depend_on_how_a_lot_is_told(self):
        rng = random.Random(2)
        checked = 0
        while checked < 300:
            letters = rng.randint(1, 3)
            words = [random_word(rng, letters, rng.randint(1, 5)) for _ in range(rng.randint(1, 4))]
            others = retold(rng, words)
            if max(map(len, others)) <= 12 and others != words:
                one, other = lot(*words, letters=letters), lot(*others, letters=letters)
                self.assertEqual(row_form(one), row_form(other))
                self.assertIs(same_rows(one, other), True)
                self.assertIs(rows_within(one, other) and rows_within(other, one), True)
                self.assertEqual(row_cosets(one), row_cosets(other))
                checked += 1

    def test_different_lots_have_different_forms(self):
        some = [lot(*words) for words in itertools.combinations(words_up_to(2, 2), 2)]
        for one in some:
            for other in some[::5]:
                both = all(row_makes(other, change) for change in one.changes)
                both = both and all(row_makes(one, change) for change in other.changes)
                self.assertEqual(row_form(one) == row_form(other), both)
                self.assertEqual(self.same_by_name(same_rows, one, other), both)


def retold(rng, words):
    """Return other words that make the same: some exchanged, undone, put behind one another, told twice."""
    words = list(words)
    for _ in range(rng.randint(1, 6)):
        one, other = rng.randrange(len(words)), rng.randrange(len(words))
        if one != other:
            words[one] = struck(words[one] + rng.choice([words[other], back(words[other])]))
        else:
            words[one] = back(words[one])
    if len(words) < 5 and rng.random() < 0.5:
        words.append(struck(words[0] + words[-1]))
    rng.shuffle(words)
    return words


class TestMade(Case):
    def test_against_a_plain_search(self):
        rng = random.Random(3)
        short = words_up_to(2, 4)
        for _ in range(60):
            told = random_lot(rng, 2, rng.randint(1, 3), 4)
            words = [change.word for change in told.changes]
            found = made_up_to(words, 4, 9)
            made = {word for word in short if row_makes(told, row(word))}
            self.assertEqual(made, found, words)

    def test_what_is_made_is_what_goes_back_to_the_start(self):
        rng = random.Random(4)
        for _ in range(60):
            letters = rng.randint(1, 3)
            told = random_lot(rng, letters, rng.randint(1, 5), 8)
            goals = steps(row_form(told))
            for word in words_up_to(letters, 3):
                made = self.same_by_name(row_makes, told, Row(letters, word))
                self.assertEqual(made, walk(goals, word) == 0)
            product = ""
            for _ in range(12):
                word = rng.choice(told.changes).word
                product = struck(product + rng.choice([word, back(word)]))
                self.assertIs(row_makes(told, Row(letters, product)), True)

    def test_within_and_needless(self):
        rng = random.Random(5)
        for _ in range(150):
            letters = rng.randint(1, 2)
            one = random_lot(rng, letters, rng.randint(1, 4), 4)
            other = random_lot(rng, letters, rng.randint(1, 4), 4)
            within = all(row_makes(other, change) for change in one.changes)
            self.assertEqual(self.same_by_name(rows_within, one, other), within)
            self.check_needless(one)

    def check_needless(self, one):
        found = self.same_by_name(needless_rows, one)
        self.assertIs(found.__class__, tuple)
        if len(one) == 1:
            self.assertEqual(found, (0,) if one.changes[0].word == "" else ())
            return
        for at in range(len(one)):
            fewer = RowLot(one.changes[:at] + one.changes[at + 1:])
            self.assertEqual(at in found, same_rows(one, fewer))
        self.assertEqual(list(found), sorted(set(found)))

    def test_needless_edges(self):
        self.assertEqual(needless_rows(lot("")), (0,))
        self.assertEqual(needless_rows(lot("a")), ())
        self.assertEqual(needless_rows(lot("", "a")), (0,))
        self.assertEqual(needless_rows(lot("", "")), (0, 1))
        self.assertEqual(needless_rows(lot("a", "a", "A")), (0, 1, 2))
        self.assertEqual(needless_rows(lot("a", "b", "ab", "ba", "aB")), (0, 1, 2, 3, 4))
        self.assertEqual(needless_rows(lot("a", "b", "cc", letters=3)), ())


class TestCosets(Case):
    def test_counted_by_what_is_left_over(self):
        rng = random.Random(6)
        finite = 0
        for _ in range(400):
            told = random_lot(rng, 2, rng.randint(2, 5), 4)
            many = self.same_by_name(row_cosets, told)
            goals = steps(row_form(told))
            places = {place for place, _ in goals} | {0}
            full = all((place, way) in goals for place in places for way in "aAbB")
            self.assertEqual(many, len(places) if full else None)
            if full:
                finite += 1
                self.check_cosets(told, many)
        self.assertGreater(finite, 20)

    def check_cosets(self, told, many):
        """Of all short words so many lie in different cosets, and no more: one undone, then the other one, is made."""
        leaders = []
        for word in words_up_to(2, 4):
            if not any(row_makes(told, row(struck(back(word) + leader))) for leader in leaders):
                leaders.append(word)
        self.assertEqual(len(leaders), many)

    def test_endlessly_many(self):
        for told in (lot("a"), lot("aa", "bb"), lot("a", "bab", letters=3), lot("a", "b", "c", letters=4),
                     lot("abAB"), lot("ab")):
            self.assertIsNone(row_cosets(told))
        self.assertEqual(row_cosets(lot("a", "b")), 1)
        self.assertEqual(row_cosets(lot("A", letters=1)), 1)
        self.assertEqual(row_cosets(lot("a" * 12, letters=1)), 12)
        self.assertEqual(row_cosets(lot("aa", "b", "abA")), 2)
        self.assertEqual(row_cosets(lot("a", "b", "c", "d", letters=4)), 1)


class TestMeet(Case):
    def test_makes_just_what_both_make(self):
        rng = random.Random(7)
        for _ in range(150):
            one = random_lot(rng, 2, rng.randint(1, 4), rng.choice([2, 3, 5]))
            other = random_lot(rng, 2, rng.randint(1, 4), rng.choice([2, 3, 5]))
            form = self.same_by_name(row_meet, one, other)
            goals = steps(form)
            for word in words_up_to(2, 5):
                both = row_makes(one, row(word)) and row_makes(other, row(word))
                self.assertEqual(walk(goals, word) == 0, both)
            places = {place for place, _ in goals} | {0}
            for place in places - {0}:
                self.assertGreater(sum((place, way) in goals for way in "aAbB"), 1)
            TestForms.check_numbering(self, goals, places)
            self.assertEqual(row_meet(other, one), form)
            self.assertEqual(row_meet(one, one), row_form(one))

    def test_form_is_that_of_a_lot_where_it_can_be_told(self):
        whole = lot("a", "b")
        for told in (lot("a"), lot("aa", "bb"), lot("abA"), lot("aa", "b", "abA"), lot(""), lot("abAB", "ba")):
            self.assertEqual(row_meet(told, whole), row_form(told))
            self.assertEqual(row_meet(whole, told), row_form(told))
        self.assertEqual(row_meet(lot("a"), lot("b")), ())
        self.assertEqual(row_meet(lot("ab"), lot("ba")), ())
        self.assertEqual(row_meet(lot("aa"), lot("aaa")), row_form(lot("a" * 6)))
        self.assertEqual(row_meet(lot("a" * 12, letters=1), lot("a" * 11, letters=1)),
                         tuple(sorted((at, "a", goal) for at, goal in ring_goals(132))))
        self.assertEqual(row_meet(lot("a", "bb"), lot("aa", "b")), row_form(lot("aa", "bb")))

    def test_great_webs(self):
        one, other = lot("a" * 12, "b" * 11, "abababababab"), lot("a" * 11, "b" * 12, "aabbaabbaabb")
        goals = steps(row_meet(one, other))
        for word in ("a" * 132, "b" * 132):
            self.assertEqual(walk(goals, word), 0)
        self.assertNotEqual(walk(goals, "a" * 12), 0)


def ring_goals(many):
    """Return the pairs of places that are neighbours in a ring of so many, numbered from 0 by a, then A."""
    number = {0: 0}
    for at in range(1, many):
        step = (at + 1) // 2 if at % 2 else -(at // 2)
        number[step % many] = at
    return [(number[step], number[(step + 1) % many]) for step in number]


if __name__ == "__main__":
    unittest.main()
