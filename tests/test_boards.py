"""Boards: presses, what is taken back, trials; errors and their order."""

import inspect
import random
import unittest

from helpers import Case, ODD, check_defined
from pressworlds import boards
from pressworlds.boards import Board
from pressworlds.errors import InvalidNumber, NotALot, NothingToUndo, TooGreat
from pressworlds.moves import Move
from pressworlds.rounds import Round
from pressworlds.rows import Row
from pressworlds.slides import Slide
from pressworlds.views import View
from pressworlds.worlds import doing, lot_of, makes, often, plan_of
from samples import GREAT, MANY, STILL, WORLDS, done, random_lot

METHODS = "__init__ press now plan lot __len__ undo trial tried"
BOTH = lot_of((Move(1, 0, 0), Move(0, 1, 0)))
NO_NUMBERS = [True, False, None, "1", "", (1,), [1], (), [], {}, b"1", object(), int, "0"]


def shown(board):
    """Return all that a board shows."""
    return str(board.now), board.plan, len(board), board.lot.text


class TestBoard(Case):
    def test_interface(self):
        check_defined(self, boards, {}, {"Board": ("lot", METHODS)})
        for name, parameters in (("press", "self index times"), ("undo", "self"), ("trial", "self"),
                ("tried", "self action")):
            self.assertEqual(list(inspect.signature(getattr(Board, name)).parameters), parameters.split())

    def test_at_first(self):
        for world in WORLDS:
            lot = random_lot(random.Random(world), world, 4)
            for board in (Board(lot), Board(lot=lot)):
                self.assertEqual(shown(board), (STILL[world], (), 0, lot.text))
                self.assertIs(board.now.__class__, lot.changes[0].__class__)
                self.assertEqual(board.lot, lot)
                self.assertIs(bool(board), True)
                for name in ("now", "plan", "lot"):
                    with self.assertRaises(AttributeError):
                        setattr(board, name, None)

    def test_never_equal(self):
        board, other = Board(BOTH), Board(BOTH)
        self.assertIs(board == other, False)
        self.assertIs(board != other, True)
        for value in ODD + [BOTH, board.now, board.plan]:
            self.assertIs(board == value, False)
            self.assertIs(value == board, False)

    def test_each_deed_against_a_plain_list(self):
        rng = random.Random(1)
        for world in WORLDS:
            for _ in range(6):
                board, pairs = Board(random_lot(rng, world, 3)), []
                for _ in range(12):
                    if rng.random() < 0.3 and pairs:
                        self.assertIsNone(board.undo())
                        pairs.pop()
                    else:
                        pair = (rng.randrange(len(board.lot)), rng.choice([-2, -1, 1, 1, 3]))
                        self.assertIsNone(board.press(*pair))
                        pairs.append(pair)
                    self.check(board, world, pairs)

    def check(self, board, world, pairs):
        """Check what a board shows behind presses that were not taken back."""
        parts = [often(board.lot.changes[index], times) for index, times in pairs]
        self.assertEqual((board.now, board.plan, len(board)), (done(world, parts), tuple(pairs), len(pairs)))
        self.assertEqual(doing(board.lot, board.plan), board.now)
        self.assertIs(board.plan.__class__, tuple)
        self.assertTrue(world.split(" ")[0] in ("screen", "lamps") or makes(board.lot, board.now))
        self.assertIs(bool(board), True)

    def test_by_name(self):
        board = Board(BOTH)
        self.assertIsNone(board.press(times=3, index=0))
        self.assertIsNone(board.press(index=1, times=-2))
        self.assertEqual(shown(board), ("areas 3 -2 -6", ((0, 3), (1, -2)), 2, BOTH.text))
        self.assertEqual(board.tried(action=len), 2)

    def test_same_deeds_show_the_same(self):
        one, other = Board(BOTH), Board(BOTH)
        for board in (one, other):
            board.press(0, 3)
            board.press(1, 1)
            board.undo()
        self.assertEqual(shown(one), shown(other))
        other.press(0, 1)
        self.assertEqual(len(one), 1)

    def test_equal_neighbours_stay_two_presses(self):
        board = Board(BOTH)
        board.press(0, 1)
        board.press(0, 1)
        board.press(0, -2)
        self.assertEqual(shown(board), ("areas 0 0 0", ((0, 1), (0, 1), (0, -2)), 3, BOTH.text))
        board.undo()
        self.assertEqual(shown(board), ("areas 2 0 0", ((0, 1), (0, 1)), 2, BOTH.text))

    def test_times_of_40_digits(self):
        board = Board(lot_of((Slide(1, GREAT), Slide(-1, 1), Slide(1, 0))))
        for index, times, text in [(0, MANY, f"ruler + {GREAT * MANY}"), (1, MANY, f"ruler - {GREAT * MANY + 1}"),
                                   (1, MANY + 1, f"ruler - {GREAT * MANY + 1}"),
                                   (2, -MANY, f"ruler - {GREAT * MANY + 1}"),
                                   (0, -MANY, f"ruler - {2 * GREAT * MANY + 1}")]:
            board.press(index, times)
            self.assertEqual(str(board.now), text)
        for lot in (lot_of((Row(2, "aA"),)), lot_of((Round(2, ((0, 1),), 0),)), lot_of((View(2, 0, (1, 2)),))):
            board = Board(lot)
            board.press(0, MANY)
            self.assertEqual(board.now, often(lot.changes[0], MANY))
            self.assertEqual(board.plan, ((0, MANY),))

    def test_told_plans_can_be_pressed(self):
        rng = random.Random(2)
        for world in ("rows 2", "grid 3", "ruler"):
            for _ in range(10):
                lot = random_lot(rng, world, 3)
                goal = done(world, [often(rng.choice(lot.changes), rng.choice([-1, 1, 2])) for _ in range(4)])
                plan = plan_of(lot, goal)
                board = Board(lot)
                if all(part.__class__ is int for part, _ in plan):
                    for index, times in plan:
                        board.press(index, times)
                    self.assertEqual(board.now, goal)

    def test_undo(self):
        board = Board(BOTH)
        with self.assertRaises(NothingToUndo):
            board.undo()
        for index in (0, 1, 0):
            board.press(index, 1)
        for left in (2, 1, 0):
            self.assertIsNone(board.undo())
            self.assertEqual(len(board), left)
        for _ in range(2):
            with self.assertRaises(NothingToUndo):
                board.undo()
            self.assertEqual(shown(board), ("areas 0 0 0", (), 0, BOTH.text))


class TestErrors(Case):
    def test_no_lot(self):
        for value in ODD + [Move(1, 0, 0), (Move(1, 0, 0),), BOTH.text, Board(BOTH), Move]:
            self.fails(NotALot, value, Board, value)
            self.fails(NotALot, value, Board, lot=value)

    def test_no_numbers(self):
        board = Board(BOTH)
        board.press(0, 2)
        before = shown(board)
        for value in NO_NUMBERS + [-1, 2, MANY, -MANY]:
            for times in (1, 0, None, value):
                self.fails(InvalidNumber, value, board.press, value, times)
                self.fails(InvalidNumber, value, board.press, times=times, index=value)
                self.assertEqual(shown(board), before)
        for value in NO_NUMBERS + [0]:
            for index in (0, 1):
                self.fails(InvalidNumber, value, board.press, index, value)
                self.fails(InvalidNumber, value, board.press, times=value, index=index)
                self.assertEqual(shown(board), before)

    def test_too_great(self):
        cases = [(Row(2, "ab"), 100, 101, 201, 402), (Row(2, "ab"), 200, 1, 201, 402),
                 (View(2, 1, (0, 1)), 400, 1, 401, 401),
                 (View(3, -4, (0, 1)), 100, 1, 101, -404), (Round(2, ((0, 1),), 1), 400, 1, 401, 401),
                 (Round(5, ((0, 4),), -3), 399, 2, 401, 401)]
        for change, good, more, often_too_great, many in cases:
            board = Board(lot_of((change, change)))
            board.press(0, good)
            before = shown(board)
            for index in (0, 1):
                self.fails(TooGreat, many * often_too_great // abs(often_too_great), board.press, index,
                        often_too_great)
                self.assertEqual(shown(board), before)
            if good + more == often_too_great:
                self.fails(TooGreat, many, board.press, 1, more)
            self.assertEqual(shown(board), before)
            board.press(1, -good)
            self.assertEqual(str(board.now), STILL[" ".join(str(change).split(" ")[:2])])
            self.assertEqual(len(board), 2)

    def test_told_change_so_often_ahead_of_what_comes(self):
        board = Board(lot_of((Row(1, "a"), Row(1, "aa"))))
        board.press(0, 399)
        self.fails(TooGreat, 401, board.press, 1, 1)
        self.fails(TooGreat, 402, board.press, 1, -201)
        self.fails(TooGreat, 2 * MANY, board.press, 1, -MANY)
        board.press(1, -200)
        self.assertEqual(str(board.now), "rows 1 A")
        board = Board(lot_of((View(2, 1, (0, 1)), View(2, 4, (1, 1)))))
        board.press(0, 398)
        self.fails(TooGreat, 402, board.press, 1, 1)
        self.fails(TooGreat, -404, board.press, 1, -101)
        board.press(1, -100)
        self.assertEqual(board.now.zoom, -2)


class OwnError(Exception):
    """An error that is none of the package."""


class TestTrials(Case):
    def begun(self):
        board = Board(BOTH)
        board.press(0, 3)
        board.press(1, 2)
        return board

    def test_called_alone(self):
        board = self.begun()
        before = shown(board)
        board.trial()
        trial = board.trial()
        self.assertEqual(shown(board), before)
        board.press(0, 1)
        with trial as held:
            self.assertIs(held, board)
            self.assertEqual(len(board), 3)
        self.assertEqual(len(board), 3)
        self.assertIs(bool(trial), True)

    def test_what_ends_otherwise_stays(self):
        board = self.begun()
        with board.trial() as held:
            self.assertIs(held, board)
            held.press(0, 1)
            held.undo()
            held.undo()
        self.assertEqual(shown(board), ("areas 3 0 0", ((0, 3),), 1, BOTH.text))
        self.assertIs(self.returning(board.trial()), board)
        self.breaking(board.trial())
        self.assertEqual(board.plan, ((0, 3), (1, 1), (1, 1)))

    def returning(self, trial):
        with trial as board:
            board.press(1, 1)
            return board

    def breaking(self, trial):
        for _ in range(3):
            with trial as board:
                board.press(1, 1)
                break

    def test_what_ends_with_an_exception_is_as_it_was(self):
        for error in (InvalidNumber(0), TooGreat(1), NothingToUndo(), ValueError("x"), KeyError(1), OwnError(),
                      StopIteration(),
                      KeyboardInterrupt(), SystemExit(), GeneratorExit(), AssertionError()):
            for backs in range(3):
                board = self.begun()
                before = shown(board)
                with self.assertRaises(error.__class__) as caught:
                    with board.trial() as held:
                        for _ in range(backs):
                            held.undo()
                        held.press(1, 5)
                        raise error
                self.assertIs(caught.exception, error)
                self.assertEqual(shown(board), before)
                board.undo()
                self.assertEqual(shown(board), ("areas 3 0 0", ((0, 3),), 1, BOTH.text))
                board.undo()
                self.assertEqual(len(board), 0)

    def test_errors_of_the_board_within(self):
        board = self.begun()
        before = shown(board)
        with self.assertRaises(NothingToUndo):
            with board.trial():
                for _ in range(3):
                    board.undo()
        self.assertEqual(shown(board), before)
        with self.assertRaises(InvalidNumber):
            with board.trial():
                board.press(0, 1)
                board.press(2, 1)
        self.assertEqual(shown(board), before)

    def test_within_one_another(self):
        board = self.begun()
        with board.trial():
            board.press(0, 1)
            middle = shown(board)
            with self.assertRaises(OwnError):
                with board.trial():
                    board.undo()
                    board.undo()
                    with board.trial():
                        board.press(1, 7)
                    self.assertEqual(board.plan, ((0, 3), (1, 7)))
                    raise OwnError()
            self.assertEqual(shown(board), middle)
            board.press(1, 1)
        self.assertEqual(board.plan, ((0, 3), (1, 2), (0, 1), (1, 1)))
        before = shown(board)
        with self.assertRaises(OwnError):
            with board.trial():
                board.press(0, 1)
                with board.trial():
                    board.undo()
                    board.undo()
                raise OwnError()
        self.assertEqual(shown(board), before)

    def test_one_trial_begun_more_than_once(self):
        board = self.begun()
        trial = board.trial()
        before = shown(board)
        for _ in range(2):
            with self.assertRaises(OwnError):
                with trial:
                    board.press(0, 1)
                    raise OwnError()
            self.assertEqual(shown(board), before)
        with self.assertRaises(OwnError):
            with trial:
                board.press(0, 1)
                with trial:
                    board.press(1, 1)
                with self.assertRaises(KeyError):
                    with trial:
                        board.undo()
                        raise KeyError()
                self.assertEqual(len(board), 4)
                raise OwnError()
        self.assertEqual(shown(board), before)

    def test_tried(self):
        board = self.begun()
        self.assertEqual(board.tried(lambda held: held.press(0, 1) or "x"), "x")
        self.assertEqual(len(board), 3)
        self.assertIs(board.tried(lambda held: held), board)
        self.assertIsNone(board.tried(lambda held: held.undo()))
        self.assertEqual(len(board), 2)
        before = shown(board)
        error = OwnError()

        def failing(held):
            held.undo()
            held.tried(lambda again: again.press(0, 9))
            raise error

        with self.assertRaises(OwnError) as caught:
            board.tried(failing)
        self.assertIs(caught.exception, error)
        self.assertEqual(shown(board), before)
        with self.assertRaises(NothingToUndo):
            board.tried(action=lambda held: [held.undo() for _ in range(3)])
        self.assertEqual(shown(board), before)

    def test_trials_of_two_boards(self):
        one, other = self.begun(), self.begun()
        with self.assertRaises(OwnError):
            with one.trial(), other.trial():
                one.press(0, 1)
                other.press(1, 1)
                raise OwnError()
        with one.trial():
            other.press(1, 1)
        self.assertEqual((len(one), len(other)), (2, 3))


if __name__ == "__main__":
    unittest.main()
