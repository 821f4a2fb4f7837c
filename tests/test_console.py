"""Consoles: each line and what is nearly one; errors and their order."""

import inspect
import random
import unittest

from helpers import Case, ODD, check_defined
from pressworlds import console
from pressworlds.boards import Board
from pressworlds.console import Console
from pressworlds.errors import InvalidLine, NotALot
from pressworlds.fewest import presses
from pressworlds.moves import Move
from pressworlds.points import Point
from pressworlds.rounds import Round
from pressworlds.rows import Row
from pressworlds.slides import Slide
from pressworlds.views import View
from pressworlds.worlds import cosets, lot_of, makes, often, read_lot
from samples import GREAT, MANY, STILL, WORLDS, done, random_change, random_lot, still
from test_fewest import JUST_5001

BOTH = lot_of((Move(1, 0, 0), Move(0, 1, 0)))
SIXES = lot_of((Slide(1, 6), Slide(-1, 1)))
NO_LINES = [
    "", " ", "\n", "x", "Now", "NOW", "now ", " now", "now\n", "now x", "now  ", "undo ", " undo", "undo 1", "Undo",
    "cosets ",
    "cosets 1", " cosets", "cosets\n", "press", "press ", "press 0", "press 0 ", "press  0 1", "press 0  1",
    "press 0 1 ", " press 0 1",
    "press 0 1 1", "press a 1", "press 0 a", "press 00 1", "press 0 01", "press +0 1", "press 0 +1", "press -0 1",
    "press 0 -0",
    "press 0 1.0", "press 0,1", "press 0 1\n", "press\n0 1", "press 0 --1", "press 0 - 1", "press 0x1 1",
    "press 1e1 1", "press 0 1_0",
    "presses 0 1", "Press 0 1", "press (0, 1)", "press0 1", "makes", "Makes ruler + 1", "make ruler + 1",
    "makesruler + 1", " makes ruler + 1",
    "needs", "needs ", "needs 3", "needs ruler + 1", "needs  3 ruler + 1", "needs 03 ruler + 1", "needs +3 ruler + 1",
    "needs -0 ruler + 1",
    "needs x ruler + 1", "needs 3\nruler + 1", "Needs 3 ruler + 1", "needs 3.0 ruler + 1", " needs 3 ruler + 1",
    "misses ruler + 1",
    "within ruler + 1", "plan", "help", "trial", "now now", "undo undo", "press 0 1 now", "\tnow", "now;", "cosets?",
    "endless"]


class ConsoleCase(Case):
    def asked(self, lot, line):
        """Return what a new console answers, asked by position and by name."""
        answer = Console(lot).say(line)
        self.assertEqual(answer, Console(lot=lot).say(line=line))
        self.assertIs(answer.__class__, str)
        return answer


class TestConsole(ConsoleCase):
    def test_interface(self):
        check_defined(self, console, {}, {"Console": ("lot", "__init__ board say")})
        self.assertEqual(list(inspect.signature(Console.say).parameters), ["self", "line"])

    def test_board(self):
        told = Console(BOTH)
        self.assertIs(told.board.__class__, Board)
        self.assertIs(told.board, told.board)
        self.assertEqual(told.board.lot, BOTH)
        with self.assertRaises(AttributeError):
            told.board = None
        self.assertIs(bool(told), True)
        told.board.press(0, 2)
        self.assertEqual(told.say("now"), "areas 2 0 0")
        self.assertEqual(told.say("press 1 3"), "ok")
        self.assertEqual(told.board.plan, ((0, 2), (1, 3)))

    def test_never_equal(self):
        one, other = Console(BOTH), Console(BOTH)
        self.assertIs(one == other, False)
        self.assertIs(one != other, True)
        for value in ODD + [one.board, BOTH]:
            self.assertIs(one == value, False)
            self.assertIs(value == one, False)

    def test_press_undo_now(self):
        rng = random.Random(1)
        for world in WORLDS:
            told, pairs = Console(random_lot(rng, world, 3)), []
            lot = told.board.lot
            for _ in range(25):
                if rng.random() < 0.3:
                    self.assertEqual(told.say("undo"), "ok" if pairs else "NothingToUndo")
                    pairs = pairs[:-1]
                else:
                    pair = (rng.randint(-1, len(lot)), rng.choice([-2, -1, 0, 1, 3]))
                    good = 0 <= pair[0] < len(lot) and pair[1] != 0
                    self.assertEqual(told.say(f"press {pair[0]} {pair[1]}"), "ok" if good else "InvalidNumber")
                    pairs += [pair] if good else []
                self.assertEqual(told.board.plan, tuple(pairs))
                now = done(world, [often(lot.changes[index], times) for index, times in pairs])
                self.assertEqual(told.say("now"), str(now))

    def test_presses_that_are_refused(self):
        for lot, good, bad, answer in [
                ("rows 2 ab", "press 0 200", "press 0 1", "TooGreat"),
                ("rows 2 ab", "press 0 200", f"press 0 {MANY}", "TooGreat"),
                ("screen 2 zoom 1 shift 0", "press 0 -400", "press 0 -1", "TooGreat"),
                ("lamps 2 end 1 at 0:1", "press 0 400", "press 0 1", "TooGreat"),
                ("ruler + 1", "press 0 1", "press 0 0", "InvalidNumber"),
                ("ruler + 1", f"press 0 {MANY}", "press 1 1", "InvalidNumber"),
                ("ruler + 1", f"press 0 -{MANY}", "press -1 1", "InvalidNumber"),
                ("ruler + 1", "press 0 1", f"press {MANY} 0", "InvalidNumber"),
                ("rows 2 ab", "press 0 200", f"press 1 {MANY}", "InvalidNumber")]:
            told = Console(read_lot(lot))
            self.assertEqual(told.say(good), "ok")
            before = (told.say("now"), told.board.plan)
            for _ in range(2):
                self.assertEqual(told.say(bad), answer)
                self.assertEqual((told.say("now"), told.board.plan), before)
            self.assertEqual(told.say("undo"), "ok")
            self.assertEqual(told.say("undo"), "NothingToUndo")
            self.assertEqual(told.board.plan, ())

    def test_cosets(self):
        rng = random.Random(2)
        for world in WORLDS * 2:
            lot = random_lot(rng, world, 3)
            many = cosets(lot)
            self.assertEqual(self.asked(lot, "cosets"), "endless" if many is None else str(many))
        self.assertEqual(self.asked(lot_of((Slide(1, GREAT),)), "cosets"), str(2 * GREAT))
        self.assertEqual(self.asked(BOTH, "cosets"), "1")
        self.assertEqual(self.asked(lot_of((Move(1, 0, 0),)), "cosets"), "endless")

    def test_makes(self):
        rng = random.Random(3)
        for world in WORLDS * 2:
            lot = random_lot(rng, world, 3)
            for change in [random_change(rng, world, 3) for _ in range(5)] + list(lot.changes):
                self.assertEqual(self.asked(lot, f"makes {change}"), "yes" if makes(lot, change) else "no")
            for other in WORLDS:
                if other != world:
                    self.assertEqual(self.asked(lot, f"makes {STILL[other]}"), "OtherWorld")
                    self.assertEqual(self.asked(lot, f"needs 3 {STILL[other]}"), "OtherWorld")
                    self.assertEqual(self.asked(lot, f"needs 7 {STILL[other]}"), "InvalidNumber")

    def test_changes_that_are_not_near(self):
        for lot, text, answer in [("screen 2 zoom 1 shift 0", "screen 2 zoom 8 shift 0", "yes"),
                                  ("screen 2 zoom 1 shift 0", "screen 2 zoom 9 shift 0", "TooFar"),
                                  ("screen 2 zoom 1 shift 0", "screen 3 zoom 9 shift 0", "OtherWorld"),
                                  ("lamps 2 end 1 dark", "lamps 2 end -40 dark", "yes"),
                                  ("lamps 2 end 1 dark", "lamps 2 end 41 dark", "TooFar"),
                                  ("lamps 2 end 1 dark", "lamps 2 end 0 at 41:1", "TooFar"),
                                  ("lamps 2 end 1 dark", "lamps 2 end 0 at 40:1", "no"),
                                  ("rows 1 aa", "rows 1 " + "a" * 400, "yes"),
                                  ("rows 1 aa", "rows 1 " + "a" * 399, "no"),
                                  ("ruler + 2", f"ruler + {2 * MANY}", "yes")]:
            self.assertEqual(self.asked(read_lot(lot), "makes " + text), answer)
            self.assertEqual(self.asked(read_lot(lot), "needs 6 " + text),
                    "OtherWorld" if answer == "OtherWorld" else "more")

    def test_needs(self):
        rng = random.Random(4)
        for world in WORLDS:
            lot = lot_of((random_change(rng, world, 2), random_change(rng, world, 2)))
            for change in [random_change(rng, world, 2) for _ in range(3)] + [lot.changes[0], still(world)]:
                for most in range(5):
                    many = presses(lot, change, most)
                    self.assertEqual(self.asked(lot, f"needs {most} {change}"), "more" if many is None else str(many))
        self.assertEqual([self.asked(BOTH, f"needs {most} areas 0 0 1") for most in (0, 3, 4, 6)],
                ["more", "more", "4", "4"])
        for most in (-1, 7, 8, -MANY, MANY):
            self.assertEqual(self.asked(BOTH, f"needs {most} areas 0 0 1"), "InvalidNumber")
        self.assertEqual(self.asked(read_lot(JUST_5001[0]), "needs 5 lamps 2 end 0 dark"), "TooMany")
        self.assertEqual(self.asked(read_lot(JUST_5001[0]), "needs 4 lamps 2 end 0 dark"), "0")

    def test_no_change(self):
        for text in ["", " ", "x", "ruler", "ruler + 01", " ruler + 1", "ruler + 1 ", "ruler  + 1", "ruler + 1\n",
                     "\nruler + 1", "ruler + 1\nruler + 1",
                     "rows 2 aA", "rows 2 abc", "grid 4 1 1 1 1", "screen 2 zoom 401 shift 0",
                     "screen 2 zoom 0 shift 1/3", "lamps 4 end 0 dark",
                     "areas 1 1", "Ruler + 1", "makes ruler + 1", "3 ruler + 1", "~" * 3000]:
            for lot in (SIXES, BOTH):
                self.assertEqual(self.asked(lot, "makes " + text), "no change")
                for most in ("0", "6", "7", "-1", str(MANY)):
                    self.assertEqual(self.asked(lot, f"needs {most} {text}"), "no change")

    def test_doubled_spaces(self):
        self.assertEqual(self.asked(SIXES, "makes  ruler + 6"), "no change")
        self.assertEqual(self.asked(SIXES, "needs 3  ruler + 6"), "no change")
        self.assertEqual(self.asked(SIXES, "makes ruler + 6"), "yes")
        self.assertEqual(self.asked(SIXES, "needs 3 ruler + 6"), "1")

    def test_nothing_is_changed_by_questions(self):
        told = Console(SIXES)
        told.say("press 0 2")
        for line in ("now", "cosets", "makes ruler + 1", "makes x", "needs 6 ruler + 6", "needs 9 ruler + 6",
                "makes areas 1 1 1"):
            told.say(line)
            self.assertEqual(told.board.plan, ((0, 2),))

    def test_grids_and_views(self):
        self.assertEqual(self.asked(lot_of((Point((2, 4)), Point((0, 3)))), "makes grid 2 2 7"), "yes")
        self.assertEqual(self.asked(lot_of((View(2, 1, (0, 1)), View(2, 0, (1, 1)))),
                "needs 3 screen 2 zoom 0 shift 2"), "2")
        self.assertEqual(self.asked(lot_of((Round(2, ((0, 1),), 1), Row(2, "a"))[:1]),
                "needs 2 lamps 2 end 2 at 0:1 1:1"), "2")


class TestErrors(ConsoleCase):
    def test_no_lot(self):
        for value in ODD + [Move(1, 0, 0), (Move(1, 0, 0),), BOTH.text, Board(BOTH)]:
            self.fails(NotALot, value, Console, value)
            self.fails(NotALot, value, Console, lot=value)

    def test_no_line(self):
        told = Console(SIXES)
        told.say("press 0 2")
        for line in NO_LINES + [value for value in ODD if not isinstance(value, str)] + [b"now", ["now"], ("now",),
                Slide(1, 1)]:
            self.fails(InvalidLine, line, told.say, line)
            self.fails(InvalidLine, line, told.say, line=line)
            self.assertEqual((told.say("now"), told.board.plan), ("ruler + 12", ((0, 2),)))


if __name__ == "__main__":
    unittest.main()
