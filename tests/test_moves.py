"""Moves: texts, what is done with one or two moves, likeness, roots, walks; errors and their order, edges."""

import itertools
import math
import random
import unittest

from helpers import Case, ODD, check_defined
from pressworlds import moves
from pressworlds.errors import InvalidNumber, InvalidText, InvalidWalk, NotAChange
from pressworlds.moves import (Move, do_moves_commute, is_move_alike, move_alike, move_gap, move_often, move_order,
                               move_root, move_then, move_undone, move_walked)
from pressworlds.points import Point
from pressworlds.slides import Slide

TWO = "one other"
FUNCTIONS = {"move_then": TWO, "move_undone": "one", "move_often": "one times", "move_order": "one", "move_gap": TWO,
             "is_move_alike": TWO, "move_alike": TWO, "do_moves_commute": TWO, "move_root": "one degree",
             "move_walked": "walk"}
CLASSES = {"Move": ("east north area", "__init__ read east north area __str__ __eq__")}
ONE_MOVE = [move_undone, move_order]
TWO_MOVES = [move_then, move_gap, is_move_alike, move_alike, do_moves_commute]
NO_MOVES = ODD + [(1, 2, 3), "areas 1 1 1", Point((1, 2, 3)), Slide(1, 1), Move]
NO_INTEGERS = [None, True, False, "1", "", (1,), [1], (), {}, b"1", object()]
GREAT = 10 ** 30
MANY = 10 ** 39 + 3
SMALL = [Move(*numbers) for numbers in itertools.product((-2, -1, 0, 1, 3), repeat=3)]


def triple(move):
    return move.east, move.north, move.area


def plain_then(one, other):
    return one[0] + other[0], one[1] + other[1], one[2] + other[2] + one[0] * other[1]


def plain_undone(one):
    """Return what is still when put behind a triple, found number by number."""
    east, north = -one[0], -one[1]
    return east, north, -one[2] - one[0] * north


def plain_often(one, times):
    done = (0, 0, 0)
    for _ in range(abs(times)):
        done = plain_then(done, one if times > 0 else plain_undone(one))
    return done


def random_move(rng, most):
    return Move(*(rng.randint(-most, most) for _ in range(3)))


class TestClass(Case):
    def test_interface(self):
        check_defined(self, moves, FUNCTIONS, CLASSES)

    def test_properties_by_position_and_by_name(self):
        for numbers, text in [((1, 2, 3), "areas 1 2 3"), ((0, 0, 0), "areas 0 0 0"), ((-1, 0, -5), "areas -1 0 -5"),
                              ((MANY, -GREAT, GREAT + 1), f"areas {MANY} {-GREAT} {GREAT + 1}")]:
            east, north, area = numbers
            for made in (Move(*numbers), Move(east=east, north=north, area=area), Move(area=area, north=north, east=east),
                         Move.read(text), Move.read(text=text)):
                self.assertEqual((made.east, made.north, made.area, str(made)), numbers + (text,))
                self.assertEqual([value.__class__ for value in triple(made)], [int, int, int])
                self.assertIs(bool(made), True)

    def test_wrong_numbers_in_this_order(self):
        for value in NO_INTEGERS + [Move(1, 1, 1), "1"]:
            for other in (1, None, "x"):
                self.fails(InvalidNumber, value, Move, value, other, other)
                self.fails(InvalidNumber, value, Move, 1, value, other)
                self.fails(InvalidNumber, value, Move, area=other, north=other, east=value)
            self.fails(InvalidNumber, value, Move, 1, 2, value)
            self.fails(InvalidNumber, value, Move, area=value, north=1, east=1)

    def test_wrong_texts(self):
        wrong = ["areas", "areas 1", "areas 1 1", "areas 1 1 ", "areas 1 1 1 ", " areas 1 1 1", "areas 1 1 1 1",
                 "areas  1 1 1", "areas 1  1 1", "areas 1 1 1\n", "\nareas 1 1 1", "areas 1 1 01", "areas 1 -0 1",
                 "areas +1 1 1", "areas 1 1 1.0", "areas 1 1 x", "areas 1,1,1", "Areas 1 1 1", "area 1 1 1", "areas 1 1 --1",
                 "areas 1 1 -", "areas 00 1 1", "areas 1 1 1_0", "areas 1 1 1\nareas 1 1 1", "grid 3 1 1 1", "grid 1 1 1",
                 "1 1 1", "areas 1 1 1/1"]
        for text in wrong + ODD + [Move(1, 1, 1)]:
            self.fails(InvalidText, text, Move.read, text)
            self.fails(InvalidText, text, Move.read, text=text)

    def test_equal_exactly_if_texts_are(self):
        for one, other in itertools.product(SMALL, repeat=2):
            self.assertIs(one == other, str(one) == str(other))
            self.assertIs(one != other, str(one) != str(other))
        for one in SMALL:
            self.assertEqual(Move.read(str(one)), one)
        for value in ODD + [(1, 2, 3), "areas 1 2 3", Point((1, 2, 3))]:
            self.assertIs(Move(1, 2, 3) == value, False)
            self.assertIs(value == Move(1, 2, 3), False)
            self.assertIs(Move(1, 2, 3) != value, True)

    def test_does_not_change(self):
        made = Move(1, 2, 3)
        for name in ("east", "north", "area"):
            with self.assertRaises(AttributeError):
                setattr(made, name, 1)
        move_then(made, made), move_often(made, 9), move_gap(made, Move(4, 4, 4))
        self.assertEqual(str(made), "areas 1 2 3")

    def test_texts_with_more_digits_than_python_writes(self):
        made = Move(0, 0, -3)
        for _ in range(60):
            made = move_often(made, 10 ** 99)
        self.assertEqual(str(made), "areas 0 0 -3" + "0" * 5940)


class TestDone(Case):
    def test_then_undone_gap_commute(self):
        for one, other in itertools.product(SMALL, repeat=2):
            ahead = plain_then(triple(one), triple(other))
            self.assertEqual(triple(self.same_by_name(move_then, one, other)), ahead)
            gap = plain_then(ahead, plain_then(plain_undone(triple(one)), plain_undone(triple(other))))
            self.assertEqual(triple(self.same_by_name(move_gap, one, other)), gap)
            commute = self.same_by_name(do_moves_commute, one, other)
            self.assertIs(commute, ahead == plain_then(triple(other), triple(one)))
            self.assertIs(commute, gap == (0, 0, 0))
        for one in SMALL + [Move(MANY, GREAT, -MANY)]:
            undone = self.same_by_name(move_undone, one)
            self.assertEqual(triple(move_then(one, undone)), (0, 0, 0))
            self.assertEqual(triple(move_then(undone, one)), (0, 0, 0))
        self.assertEqual(triple(move_gap(Move(MANY, 1, 0), Move(0, GREAT, 5))), (0, 0, MANY * GREAT))
        self.assertEqual(triple(move_then(Move(MANY, 0, 1), Move(0, MANY, 1))), (MANY, MANY, 2 + MANY ** 2))

    def test_often(self):
        for one in SMALL:
            for times in range(-7, 8):
                self.assertEqual(triple(self.same_by_name(move_often, one, times)), plain_often(triple(one), times))
        for times in (MANY, -MANY, MANY + 1):
            done = move_often(Move(2, 3, -1), times)
            self.assertEqual(triple(done), (2 * times, 3 * times, -times + times * (times - 1) * 3))
            self.assertEqual(move_then(done, move_often(Move(2, 3, -1), 1 - times)), Move(2, 3, -1))

    def test_order(self):
        for one in SMALL + [Move(0, 0, MANY)]:
            still = triple(one) == (0, 0, 0)
            self.assertEqual(self.same_by_name(move_order, one), 1 if still else None)

    def test_alike_against_a_plain_search(self):
        movers = list(itertools.product(range(-6, 7), repeat=2))
        for one in SMALL:
            likes = set()
            for east, north in movers:
                c = (east, north, 5)
                likes.add(plain_then(plain_then(c, triple(one)), plain_undone(c)))
            for other in SMALL:
                alike = self.same_by_name(is_move_alike, one, other)
                self.assertIs(alike, triple(other) in likes, (str(one), str(other)))
                self.check_alike(one, other, alike)

    def check_alike(self, one, other, alike):
        shown = self.same_by_name(move_alike, one, other)
        self.assertEqual(shown is not None, alike)
        if alike:
            self.assertIs(shown.__class__, Move)
            self.assertEqual(move_then(move_then(shown, one), move_undone(shown)), other)

    def test_alike_exactly_by_remainders(self):
        rng = random.Random(1)
        alike = 0
        for _ in range(600):
            one = random_move(rng, rng.choice([6, 30, MANY]))
            divisor = math.gcd(one.east, one.north)
            more = rng.choice([divisor * rng.randint(-9, 9), rng.randint(-9, 9)])
            other = Move(one.east, one.north, one.area + more)
            plain = more % divisor == 0 if divisor else more == 0
            self.assertIs(is_move_alike(one, other), plain)
            self.check_alike(one, other, plain)
            alike += plain
            self.assertIs(is_move_alike(one, Move(one.east + 1, one.north, one.area)), False)
            self.assertIs(is_move_alike(one, Move(one.east, one.north - 1, one.area)), False)
            c = random_move(rng, MANY)
            self.check_alike(one, move_then(move_then(c, one), move_undone(c)), True)
        self.assertTrue(100 < alike < 560, alike)

    def test_alike_edges(self):
        for numbers, other, alike in [((0, 0, 5), (0, 0, 5), True), ((0, 0, 5), (0, 0, -5), False), ((0, 0, 0), (0, 0, 1), False),
                                      ((0, 3, 1), (0, 3, 4), True), ((0, 3, 1), (0, 3, 3), False), ((-4, 0, 1), (-4, 0, 9), True),
                                      ((-4, 0, 1), (-4, 0, 3), False), ((1, 0, 0), (1, 0, MANY), True),
                                      ((6, -9, 0), (6, -9, 3), True), ((6, -9, 0), (6, -9, 2), False),
                                      ((6, 35, 0), (6, 35, 1), True), ((6, 35, 0), (-6, -35, 0), False),
                                      ((2 * GREAT, 4 * GREAT, 1), (2 * GREAT, 4 * GREAT, 2 * GREAT + 1), True),
                                      ((2 * GREAT, 4 * GREAT, 1), (2 * GREAT, 4 * GREAT, GREAT + 1), False)]:
            self.assertIs(is_move_alike(Move(*numbers), Move(*other)), alike)
            self.check_alike(Move(*numbers), Move(*other), alike)


class TestRoots(Case):
    def test_against_a_plain_search(self):
        roots = list(itertools.product(range(-3, 4), range(-3, 4), range(-9, 10)))
        for degree in range(1, 5):
            powers = {plain_often(root, degree) for root in roots}
            for numbers in itertools.product(range(-3, 4), range(-3, 4), range(-5, 6)):
                found = self.same_by_name(move_root, Move(*numbers), degree)
                self.assertEqual(found is not None, numbers in powers)
                if found is not None:
                    self.assertEqual(plain_often(triple(found), degree), numbers)

    def test_powers_have_roots_and_those_beside_have_none(self):
        rng = random.Random(2)
        for _ in range(300):
            root, degree = random_move(rng, rng.choice([3, MANY])), rng.choice([1, 2, 3, 6, MANY, MANY + 1])
            power = move_often(root, degree)
            self.assertEqual(move_root(power, degree), root)
            for beside in (Move(power.east + 1, power.north, power.area), Move(power.east, power.north + 1, power.area),
                           Move(power.east, power.north, power.area + 1)):
                self.assertEqual(move_root(beside, degree) is None, degree > 1)

    def test_roots_that_ask_for_half_of_something(self):
        # Done twice, a move of x and y odd has an area that is odd; of others it is even.
        self.assertEqual(move_root(Move(2, 2, 1), 2), Move(1, 1, 0))
        self.assertIsNone(move_root(Move(2, 2, 0), 2))
        self.assertEqual(move_root(Move(2, 4, 2), 2), Move(1, 2, 0))
        self.assertIsNone(move_root(Move(2, 4, 1), 2))
        self.assertEqual(move_root(Move(4, 4, 10), 4), Move(1, 1, 1))
        self.assertEqual(move_root(Move(4, 4, 2), 4), Move(1, 1, -1))
        for area in (8, 9, 11, 12):
            self.assertIsNone(move_root(Move(4, 4, area), 4))
        self.assertEqual(move_root(Move(3, 3, 3), 3), Move(1, 1, 0))
        self.assertIsNone(move_root(Move(3, 3, 1), 3))
        self.assertIsNone(move_root(Move(1, 0, 0), 2))
        self.assertEqual(move_root(Move(0, 0, 0), MANY), Move(0, 0, 0))
        self.assertIsNone(move_root(Move(0, 0, 1), MANY))


class TestWalks(Case):
    def test_letter_by_letter(self):
        steps = {"e": (1, 0, 0), "n": (0, 1, 0), "w": (-1, 0, 0), "s": (0, -1, 0)}
        for size in range(6):
            for letters in itertools.product("enws", repeat=size):
                done = (0, 0, 0)
                for letter in letters:
                    done = plain_then(done, steps[letter])
                self.assertEqual(triple(self.same_by_name(move_walked, "".join(letters))), done)

    def test_edges(self):
        self.assertEqual(triple(move_walked("")), (0, 0, 0))
        self.assertEqual(triple(move_walked("enws")), (0, 0, 1))
        self.assertEqual(triple(move_walked("nesw")), (0, 0, -1))
        self.assertEqual(triple(move_walked("e" * 4000)), (4000, 0, 0))
        self.assertEqual(triple(move_walked("e" * 2000 + "n" * 2000)), (2000, 2000, 4000000))

    def test_no_walk(self):
        wrong = [value for value in ODD if value != ""] + ["E", "enw ", " e", "e\n", "x", "e,n", b"en", ("e",), ["e"], "e" * 4001,
                                                           Move(1, 0, 0), "north"]
        for walk in wrong:
            self.fails(InvalidWalk, walk, move_walked, walk)
            self.fails(InvalidWalk, walk, move_walked, walk=walk)


class TestErrors(Case):
    def test_no_move(self):
        good = Move(1, 2, 3)
        for value in NO_MOVES:
            for call in ONE_MOVE:
                self.fails(NotAChange, value, call, value)
                self.fails(NotAChange, value, call, one=value)
            for call in TWO_MOVES:
                self.fails(NotAChange, value, call, value, good)
                self.fails(NotAChange, value, call, good, value)
                self.fails(NotAChange, value, call, value, None)
                self.fails(NotAChange, value, call, other=None, one=value)
            for call in (move_often, move_root):
                self.fails(NotAChange, value, call, value, 1)
                self.fails(NotAChange, value, call, value, None)

    def test_no_number(self):
        for value in NO_INTEGERS + [Move(1, 1, 1)]:
            for call in (move_often, move_root):
                for one in (Move(0, 0, 0), Move(1, 2, 3)):
                    self.fails(InvalidNumber, value, call, one, value)
        for value in (0, -1, -MANY):
            self.fails(InvalidNumber, value, move_root, degree=value, one=Move(0, 0, 0))


if __name__ == "__main__":
    unittest.main()
