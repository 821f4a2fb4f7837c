"""Libraries: lots under names, wishes, what is taken back, trials, logs; errors and their order."""

import inspect
import random
import unittest

from helpers import Case, ODD, check_defined
from pressworlds import libraries
from pressworlds.errors import (Broken, InUse, InvalidLog, InvalidName, InvalidNumber, InvalidWish, NotALot,
                                NothingToUndo,
                                NotPossible, UnknownName, WrongName, WrongValue)
from pressworlds.libraries import Library, played
from pressworlds.moves import Move
from pressworlds.slides import Slide
from pressworlds.wishes import holds
from pressworlds.worlds import cosets, lot_of, read_lot
from samples import STILL, WORLDS, random_change, random_lot
from test_wishes import NO_WISHES

METHODS = "__init__ put named drop wish lift undo trial tried names wishes changes __len__ log"
TWOS, SIXES, THREES = (lot_of((Slide(1, number),)) for number in (2, 6, 3))
MOVES = lot_of((Move(1, 0, 0), Move(0, 1, 0)))
GOOD_NAMES = ["a", "z", "ab", "name", "abcdefgh", "zzzzzzzz", "zaaaaaaz"]
NO_NAMES = [value for value in ODD if value != "x"] + [
    "", "A", "aB", "a1", "1", "a b", " a", "a ", "a\n", "\n", "abcdefghi", "a_b", "a-b", "Abcdefgh", "abcdefgH", "a.b",
    b"a", ("a",),
    ["a"], "~", "{", "`"]


def shown(library):
    """Return all that a library shows."""
    return (library.names, [library.named(name).text for name in library.names], library.wishes, library.changes,
            len(library), library.log)


class Plain:
    """A library as plain lists of what there is behind each deed; `wrong` tells what a deed raises."""

    def __init__(self):
        self.past = [({}, [])]
        self.log = []

    def deed(self, told):
        """Do a deed and return None, or change nothing and return the class and the attribute of the error."""
        lots, wanted = dict(self.past[-1][0]), list(self.past[-1][1])
        if told[0] == "undo":
            if not self.log:
                return NothingToUndo, None
            self.past.pop()
            self.log.pop()
            return None
        wrong = getattr(self, told[0])(lots, wanted, *told[1:])
        if wrong is None:
            self.past.append((lots, wanted))
            self.log.append(told)
        return wrong

    def put(self, lots, wanted, name, text):
        for at, (wished, wish) in enumerate(wanted):
            if wished == name and not holds(read_lot(text), wish):
                return Broken, at
        lots[name] = text
        return None

    def drop(self, lots, wanted, name):
        if name not in lots:
            return UnknownName, name
        for at, (wished, _) in enumerate(wanted):
            if wished == name:
                return InUse, at
        del lots[name]
        return None

    def wish(self, lots, wanted, name, wish):
        if name not in lots:
            return UnknownName, name
        if not holds(read_lot(lots[name]), wish):
            return Broken, len(wanted)
        wanted.append((name, wish))
        return None

    def lift(self, lots, wanted, index):
        if not 0 <= index < len(wanted):
            return InvalidNumber, index
        del wanted[index]
        return None

    def shown(self):
        lots, wanted = self.past[-1]
        return (tuple(sorted(lots)), [lots[name] for name in sorted(lots)], tuple(wanted), len(self.log), len(lots),
                tuple(self.log))


def do(library, told):
    """Do a deed of a library."""
    if told[0] == "put":
        return library.put(told[1], read_lot(told[2]))
    return {"drop": library.drop, "wish": library.wish, "lift": library.lift, "undo": library.undo}[told[0]](*told[1:])


def random_deed(rng, plain):
    """Return a random deed, most of them of the few worlds in which wishes meet."""
    lots, wanted = plain.past[-1]
    name = rng.choice(["a", "b", "lot", "x"] + sorted(lots))
    world = rng.choice(["ruler", "ruler", "grid 1", "rows 1", "areas", rng.choice(WORLDS)])
    choice = rng.random()
    if rng.random() < 0.1:
        return ("undo",)
    if choice < 0.4 or not lots:
        return ("put", name, random_lot(rng, world, 3).text)
    if choice < 0.65:
        lot = read_lot(lots.get(name, "ruler + 1"))
        wishes = [("cosets", rng.choice([1, 4, 30, cosets(lot) or 9])), ("makes", str(rng.choice(lot.changes))),
                  ("misses", str(random_change(rng, world, 3))), ("within", lot.text),
                  ("within", random_lot(rng, world, 2).text)]
        return ("wish", name, rng.choice(wishes))
    if choice < 0.75:
        return ("drop", name)
    if choice < 0.87:
        return ("lift", rng.randint(0, len(wanted)))
    return ("undo",)


class TestLibrary(Case):
    def test_interface(self):
        check_defined(self, libraries, {"played": "log"}, {"Library": ("", METHODS)})
        for name, parameters in (("put", "name lot"), ("named", "name"), ("drop", "name"), ("wish", "name wish"),
                                 ("lift", "index"), ("undo", ""), ("trial", ""), ("tried", "action")):
            self.assertEqual(list(inspect.signature(getattr(Library, name)).parameters), ["self"] + parameters.split())

    def test_at_first(self):
        library = Library()
        self.assertEqual(shown(library), ((), [], (), 0, 0, ()))
        self.assertIs(bool(library), True)
        self.assertEqual([value.__class__ for value in (library.names, library.wishes, library.changes, library.log)],
                         [tuple, tuple, int, tuple])
        for name in ("names", "wishes", "changes", "log"):
            with self.assertRaises(AttributeError):
                setattr(library, name, None)

    def test_never_equal(self):
        library, other = Library(), Library()
        self.assertIs(library == other, False)
        self.assertIs(library != other, True)
        for value in ODD:
            self.assertIs(library == value, False)
            self.assertIs(value == library, False)

    def test_each_deed_against_plain_lists(self):
        rng = random.Random(1)
        raised = {}
        for _ in range(60):
            library, plain = Library(), Plain()
            for _ in range(30):
                told = random_deed(rng, plain)
                wrong = plain.deed(told)
                raised[wrong and wrong[0]] = raised.get(wrong and wrong[0], 0) + 1
                if wrong is None:
                    self.assertIsNone(do(library, told))
                elif wrong[1] is None:
                    self.assertRaises(wrong[0], do, library, told)
                else:
                    self.fails(wrong[0], wrong[1], do, library, told)
                self.assertEqual(shown(library), plain.shown())
                self.assertTrue(all(holds(library.named(name), wish) for name, wish in library.wishes))
                self.assertIs(bool(library), True)
            self.assertEqual(shown(self.same_log(library.log)), plain.shown())
        self.assertGreater(min(raised[kind] for kind in (None, Broken, InUse, InvalidNumber, UnknownName,
                NothingToUndo)), 4)

    def same_log(self, log):
        """Return the library to which a log leads, by position and by name."""
        library, other = played(log), played(log=log)
        self.assertEqual(shown(library), shown(other))
        self.assertIs(library.__class__, Library)
        self.assertIs(library == other, False)
        return library

    def test_by_name(self):
        library = Library()
        self.assertIsNone(library.put(lot=TWOS, name="twos"))
        self.assertIsNone(library.wish(wish=("cosets", 4), name="twos"))
        self.assertEqual(library.named(name="twos"), TWOS)
        self.assertIsNone(library.lift(index=0))
        self.assertIsNone(library.drop(name="twos"))
        self.assertEqual(library.log, (("put", "twos", "ruler + 2"), ("wish", "twos", ("cosets", 4)), ("lift", 0),
                ("drop", "twos")))
        self.assertEqual(library.tried(action=len), 0)

    def test_names(self):
        library = Library()
        for many, name in enumerate(GOOD_NAMES, 1):
            library.put(name, TWOS)
            self.assertEqual((len(library), library.changes), (many, many))
        self.assertEqual(library.names, tuple(sorted(GOOD_NAMES)))
        library.put("ab", SIXES)
        self.assertEqual((len(library), library.changes), (7, 8))
        self.assertEqual(library.named("ab"), SIXES)
        self.assertEqual(library.named("abcdefgh"), TWOS)

    def test_lots_in_the_place_of_others(self):
        library = Library()
        library.put("a", SIXES)
        library.put("b", SIXES)
        library.wish("b", ("cosets", 12))
        library.wish("a", ("misses", "ruler + 3"))
        library.wish("a", ("within", TWOS.text))
        library.wish("a", ("makes", "ruler + 12"))
        before = shown(library)
        for lot, index in [(THREES, 1), (MOVES, 1), (lot_of((Slide(1, 2), Slide(-1, 1))), 2),
                (lot_of((Slide(1, 8),)), 3)]:
            self.fails(Broken, index, library.put, "a", lot)
            self.fails(Broken, index, library.put, lot=lot, name="a")
            self.assertEqual(shown(library), before)
        self.fails(Broken, 0, library.put, "b", lot_of((Slide(1, 7),)))
        library.put("a", TWOS)
        library.put("b", THREES)
        library.put("c", MOVES)
        self.assertEqual(library.named("a"), TWOS)
        library.put("c", SIXES)
        self.assertEqual(library.named("c"), SIXES)

    def test_wishes_that_do_not_hold(self):
        library = Library()
        library.put("a", SIXES)
        for at in range(3):
            for wish in (("cosets", 11), ("makes", "ruler + 3"), ("misses", "ruler + 6"), ("within", "ruler + 12"),
                         ("makes", "areas 0 0 0"), ("misses", "x"), ("within", "")):
                before = shown(library)
                self.fails(Broken, at, library.wish, "a", wish)
                self.fails(Broken, at, library.wish, wish=wish, name="a")
                self.assertEqual(shown(library), before)
            library.wish("a", ("cosets", 12))
        self.assertEqual(library.wishes, (("a", ("cosets", 12)),) * 3)

    def test_drop_and_lift(self):
        library = Library()
        for name in "abc":
            library.put(name, TWOS)
        for name in "bcb":
            library.wish(name, ("makes", "ruler + 4"))
        library.drop("a")
        self.fails(InUse, 0, library.drop, "b")
        self.fails(InUse, 1, library.drop, name="c")
        library.lift(0)
        self.fails(InUse, 1, library.drop, "b")
        self.fails(InUse, 0, library.drop, "c")
        library.lift(1)
        library.drop("b")
        self.assertEqual((library.names, library.wishes), (("c",), (("c", ("makes", "ruler + 4")),)))
        library.undo()
        library.undo()
        self.assertEqual(library.wishes, (("c", ("makes", "ruler + 4")), ("b", ("makes", "ruler + 4"))))
        self.fails(InUse, 1, library.drop, "b")

    def test_undo_of_each_kind(self):
        library = Library()
        states = [shown(library)]
        for told in [("put", "a", "ruler + 6"), ("put", "a", "ruler + 2"), ("wish", "a", ("cosets", 4)),
                     ("wish", "a", ("cosets", 5)),
                     ("lift", 0), ("lift", 0), ("drop", "a"), ("put", "b", MOVES.text)]:
            do(library, told)
            states.append(shown(library))
        for state in reversed(states):
            self.assertEqual(shown(library), state)
            if library.changes:
                self.assertIsNone(library.undo())
        for _ in range(2):
            with self.assertRaises(NothingToUndo):
                library.undo()
            self.assertEqual(shown(library), states[0])

    def test_lots_of_all_worlds(self):
        library = Library()
        for at, world in enumerate(WORLDS):
            lot = random_lot(random.Random(world), world, 3)
            library.put("lot" + "abcdefghijklmnopqrstuvw"[at], lot)
            library.wish("lot" + "abcdefghijklmnopqrstuvw"[at], ("makes", STILL[world]))
            self.assertEqual(library.named("lot" + "abcdefghijklmnopqrstuvw"[at]), lot)
        self.assertEqual(len(library), len(WORLDS))
        self.assertEqual(shown(played(library.log)), shown(library))


class TestErrors(Case):
    def library(self):
        library = Library()
        library.put("a", SIXES)
        library.put("bc", MOVES)
        library.wish("a", ("cosets", 12))
        return library

    def test_no_name(self):
        library = self.library()
        before = shown(library)
        for value in NO_NAMES:
            for lot in (TWOS, None, MOVES):
                self.fails(InvalidName, value, library.put, value, lot)
                self.fails(InvalidName, value, library.put, lot=lot, name=value)
        self.assertEqual(shown(library), before)

    def test_no_lot(self):
        library = self.library()
        before = shown(library)
        for value in ODD + [Move(1, 0, 0), (Move(1, 0, 0),), MOVES.text, library]:
            for name in ("a", "new"):
                self.fails(NotALot, value, library.put, name, value)
                self.fails(NotALot, value, library.put, lot=value, name=name)
        self.assertEqual(shown(library), before)

    def test_unknown_names(self):
        for library in (self.library(), Library()):
            before = shown(library)
            for value in NO_NAMES + ["x", "b", "aa", "c", "bcd", "unknown", SIXES]:
                self.fails(UnknownName, value, library.named, value)
                self.fails(UnknownName, value, library.named, name=value)
                self.fails(UnknownName, value, library.drop, value)
                self.fails(UnknownName, value, library.drop, name=value)
                for wish in (("cosets", 12), None, ("cosets", 0)):
                    self.fails(UnknownName, value, library.wish, value, wish)
                    self.fails(UnknownName, value, library.wish, wish=wish, name=value)
            self.assertEqual(shown(library), before)

    def test_no_wish(self):
        library = self.library()
        before = shown(library)
        for value in NO_WISHES:
            for name in ("a", "bc"):
                self.fails(InvalidWish, value, library.wish, name, value)
                self.fails(InvalidWish, value, library.wish, wish=value, name=name)
        self.assertEqual(shown(library), before)

    def test_no_index(self):
        library = self.library()
        before = shown(library)
        for value in [-1, 1, 2, 10 ** 40, True, False, None, "0", (0,), [0], (), [], {}, b"0", object(), "a"]:
            self.fails(InvalidNumber, value, library.lift, value)
            self.fails(InvalidNumber, value, library.lift, index=value)
        for value in (0, -1, 1, False):
            self.fails(InvalidNumber, value, Library().lift, value)
        self.assertEqual(shown(library), before)


class OwnError(Exception):
    """An error that is none of the package."""


class TestTrials(Case):
    def begun(self):
        library = Library()
        library.put("a", SIXES)
        library.wish("a", ("cosets", 12))
        library.put("b", TWOS)
        return library

    def test_called_alone(self):
        library = self.begun()
        before = shown(library)
        trial = library.trial()
        self.assertEqual(shown(library), before)
        library.drop("b")
        with trial as held:
            self.assertIs(held, library)
        self.assertEqual(len(library), 1)

    def test_ended_with_an_exception(self):
        for error in (OwnError(), KeyError("x"), Broken(0), UnknownName("x"), InvalidName(1), KeyboardInterrupt()):
            for backs in range(4):
                library = self.begun()
                before = shown(library)
                with self.assertRaises(error.__class__) as caught:
                    with library.trial() as held:
                        held.put("c", MOVES)
                        for _ in range(backs + 1):
                            held.undo()
                        held.put("d", TWOS)
                        raise error
                self.assertIs(caught.exception, error)
                self.assertEqual(shown(library), before)
                library.undo()
                self.assertEqual((library.names, library.changes), (("a",), 2))
                self.assertEqual(shown(played(library.log)), shown(library))

    def test_ended_otherwise(self):
        library = self.begun()
        with library.trial():
            library.undo()
            library.lift(0)
            library.put("c", MOVES)
        self.assertEqual(library.log, (("put", "a", SIXES.text), ("wish", "a", ("cosets", 12)), ("lift", 0),
                ("put", "c", MOVES.text)))
        library.undo()
        library.undo()
        self.assertEqual(library.wishes, (("a", ("cosets", 12)),))

    def test_errors_of_the_library_within(self):
        for deed, error in [(lambda held: held.put("a", lot_of((Slide(1, 7),))), Broken),
                            (lambda held: held.drop("a"), InUse),
                            (lambda held: held.named("x"), UnknownName),
                            (lambda held: held.put("A", TWOS), InvalidName),
                            (lambda held: [held.undo() for _ in range(9)], NothingToUndo),
                            (lambda held: held.lift(1), InvalidNumber)]:
            library = self.begun()
            before = shown(library)

            def tried(held):
                held.drop("b")
                held.put("a", TWOS)
                deed(held)

            self.assertRaises(error, library.tried, tried)
            self.assertEqual(shown(library), before)
            self.assertRaises(error, library.tried, action=tried)
            self.assertTrue(issubclass(error, (WrongValue, WrongName, NotPossible)))

    def test_within_one_another(self):
        library = self.begun()
        with library.trial():
            library.put("c", MOVES)
            middle = shown(library)
            with self.assertRaises(OwnError):
                with library.trial():
                    library.undo()
                    library.undo()
                    library.tried(lambda held: held.put("d", MOVES))
                    raise OwnError()
            self.assertEqual(shown(library), middle)
        self.assertEqual(shown(library), middle)
        with self.assertRaises(OwnError):
            with library.trial():
                with library.trial():
                    library.undo()
                library.drop("b")
                raise OwnError()
        self.assertEqual(shown(library), middle)

    def test_tried(self):
        library = self.begun()
        self.assertEqual(library.tried(lambda held: held.names), ("a", "b"))
        self.assertIs(library.tried(lambda held: held), library)
        self.assertIsNone(library.tried(lambda held: held.drop("b")))
        self.assertEqual(library.names, ("a",))


class TestLogs(Case):
    def test_cut_short(self):
        rng = random.Random(2)
        library, plain = Library(), Plain()
        states = []
        while library.changes < 25:
            told = random_deed(rng, plain)
            if told[0] != "undo" and plain.deed(told) is None:
                do(library, told)
                states.append(shown(library))
        for many in range(1, 26):
            self.assertEqual(shown(played(library.log[:many])), states[many - 1])
        for wrong in (("drop", "unknown"), None, ("undo",), ("lift", 99)):
            for many in (0, 1, 7, 25):
                self.fails(InvalidLog, many, played, library.log[:many] + (wrong,) + library.log[many:])
        self.assertEqual(shown(played(())), shown(Library()))

    def test_no_tuple(self):
        for value in ODD + [[("put", "a", "ruler + 1")], Library(), "log"]:
            if not isinstance(value, tuple):
                self.fails(InvalidLog, None, played, value)
                self.fails(InvalidLog, None, played, log=value)

    def test_elements_that_are_none_or_are_refused(self):
        begun = (("put", "a", "ruler + 6"), ("wish", "a", ("cosets", 12)))
        wrong = [value for value in ODD] + [
            ["drop", "a"], ("drop",), ("drop", "a", "a"), ("put", "a"), ("put", "a", "ruler + 1", 1), ("wish", "a"),
            ("lift",), ("lift", 0, 0),
            ("undo",), ("Put", "b", "ruler + 1"), ("put", "A", "ruler + 1"), ("put", "abcdefghi", "ruler + 1"),
            ("put", "", "ruler + 1"),
            ("put", "b", "ruler + 01"), ("put", "b", ""), ("put", "b", None), ("put", "b", TWOS),
            ("put", None, "ruler + 1"),
            ("put", "a", "ruler + 7"), ("put", "a", "areas 1 1 1"), ("drop", "a"), ("drop", "b"), ("drop", None),
            ("drop", ["a"]),
            ("wish", "b", ("cosets", 12)), ("wish", "a", ("cosets", 11)), ("wish", "a", ["cosets", 12]),
            ("wish", "a", ("cosets", True)),
            ("wish", "a", None), ("wish", ["a"], ("cosets", 12)), ("lift", 1), ("lift", -1), ("lift", True),
            ("lift", False), ("lift", None),
            ("lift", "0"), (("put",), "b", "ruler + 1"), (["put"], "b", "ruler + 1"), (None, "a"), (1, 2, 3),
            ("put", ["b"], "ruler + 1"),
            ("put", "b", ["ruler + 1"]), ("put", "b", "ruler + 1\n")]
        for value in wrong:
            self.fails(InvalidLog, 2, played, begun + (value,))
            self.fails(InvalidLog, 2, played, log=begun + (value, None))
        for value in ODD:
            self.fails(InvalidLog, 0, played, (value,) + begun)
        self.fails(InvalidLog, 0, played, begun[::-1])

    def test_what_was_told_is_kept(self):
        log = (("put", "a", "ruler + 6\nruler - 1"), ("wish", "a", ("makes", "ruler - 7")), ("lift", 0), ("drop", "a"))
        self.assertEqual(played(log).log, log)


if __name__ == "__main__":
    unittest.main()
