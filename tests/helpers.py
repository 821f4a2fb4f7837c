"""What several tests need: plain reckoning with words, checks of errors, calls by position and by name."""

import inspect
import unittest

from pressworlds import errors

ODD = [True, False, None, [], (), {}, "", "x", "rows 2 ab", b"ab", 0, 1, -1, 2, 7, 10 ** 40, (1,), ("a",), [1, 2],
       {"a": 1}, object(), len, int, frozenset(), range(3), ((0, 1),), (True, False), [("a", 1)], (None, None)]


class Case(unittest.TestCase):
    """A test case that can check which error a call raises, with which attribute."""

    def fails(self, error, told, call, *args, **named):
        """Check the very class of the error, and that its attribute is the very value (or None, or this integer)."""
        with self.assertRaises(error) as caught:
            call(*args, **named)
        self.assertIs(caught.exception.__class__, error)
        attribute = "index" if "index" in inspect.signature(error).parameters else "given"
        value = getattr(caught.exception, attribute)
        self.assertIs(value.__class__, told.__class__)
        if isinstance(told, int):
            self.assertEqual(value, told)
        else:
            self.assertIs(value, told)

    def same_by_name(self, call, *args):
        """Check that a call by position and by the names of the signature gives the same, and return it."""
        names = list(inspect.signature(call).parameters)
        self.assertEqual(len(names), len(args))
        by_position = call(*args)
        by_name = call(**dict(zip(names, args)))
        self.assertEqual(by_position, by_name)
        self.assertIs(by_position.__class__, by_name.__class__)
        return by_position

    def has_signature(self, call, *names):
        """Check the names of the parameters of a function, or of a class."""
        self.assertEqual(list(inspect.signature(call).parameters), list(names), call)


def check_defined(case, module, functions, classes):
    """Check that functions and classes are defined in a module, and methods in their classes, with these parameters."""
    for name, parameters in functions.items():
        call = getattr(module, name)
        case.assertTrue(inspect.isfunction(call), name)
        case.assertEqual(call.__module__, module.__name__, name)
        case.has_signature(call, *parameters.split())
    for name, (parameters, methods) in classes.items():
        made = getattr(module, name)
        case.assertTrue(inspect.isclass(made), name)
        case.assertEqual(made.__module__, module.__name__, name)
        case.has_signature(made, *parameters.split())
        for method in methods.split():
            case.assertIn(method, made.__dict__, f"{name}.{method}")


def struck(word):
    """Return the reduced word, by striking the first two neighbours that are opposite, again and again."""
    at = 0
    while at + 1 < len(word):
        if word[at] == word[at + 1].swapcase():
            word = word[:at] + word[at + 2:]
            at = max(0, at - 1)
        else:
            at += 1
    return word


def back(word):
    """Return the word undone."""
    return "".join(letter.swapcase() for letter in reversed(word))


def words_up_to(letters, most):
    """Return all reduced words with at most so many letters, the shorter ones first."""
    ways = "aAbBcCdD"[:2 * letters]
    found, last = [""], [""]
    for _ in range(most):
        last = [word + way for word in last for way in ways if not word or word[-1] != way.swapcase()]
        found += last
    return found


def random_word(rng, letters, size):
    """Return a random reduced word with so many letters."""
    word = ""
    while len(word) < size:
        way = rng.choice("aAbBcCdD"[:2 * letters])
        if not word or word[-1] != way.swapcase():
            word += way
    return word


def flat(plan):
    """Return a plan over indexes as a list of indexes and signs, each press by itself."""
    presses = []
    for part, times in plan:
        inner = flat(part) if isinstance(part, tuple) else [(part, 1)]
        if times < 0:
            inner = [(index, -sign) for index, sign in reversed(inner)]
        presses += inner * abs(times)
    return presses


def press_count(plan):
    """Return how many presses a plan has, each counted by itself."""
    return sum(abs(times) * (press_count(part) if isinstance(part, tuple) else 1) for part, times in plan)


def wrong_plans():
    """Return values that are no plans of a lot with two told changes."""
    deep = ((0, 1),)
    for _ in range(5):
        deep = ((deep, 1),)
    wrong = [value for value in ODD if value not in [(), ((0, 1),)]]
    return wrong + [(0, 1), ((2, 1),), ((-1, 1),), ((0, 0),), ((0, 1, 1),), ((0,),), [(0, 1)], ([0, 1],), ((0, True),),
                    ((True, 1),), ((False, 1),), ((0, None),), ((None, 1),), ((((0, 0),), 1),), ((((0, 1), 1), 1),),
                    ((([(0, 1)], 1),), 1), deep, ((0, 1), (1, 1), (2, 1)), (("0", 1),), ((0, "1"),), ((0, (1,)),)]


def deep_plan(part, plans, times=1):
    """Return a plan with so many plans within one another around a part, each so many times."""
    for _ in range(plans):
        part = ((part, times),)
    return part


def random_plan(rng, many, plans, times):
    """Return a random plan with at most so many plans within one another."""
    pairs = []
    for _ in range(rng.randrange(4)):
        part = random_plan(rng, many, plans - 1, times) if plans > 1 and rng.random() < 0.5 else rng.randrange(many)
        pairs.append((part, rng.choice(times)))
    return tuple(pairs)


def check_told(case, made, good, wrong, others):
    """Check which index a class of lots tells of wrong changes, and of good ones that are not of one world."""
    for value in ODD + [[good], good]:
        if not isinstance(value, tuple) or not value:
            case.fails(errors.InvalidChanges, None, made, value)
            case.fails(errors.InvalidChanges, None, made, changes=value)
    for value in ODD + wrong + others + [(good,), str(good)]:
        for at in range(1, 5):
            case.fails(errors.InvalidChanges, at, made, (good,) * at + (value,))
            case.fails(errors.InvalidChanges, at, made, (good,) * at + (value, None, good, good, good, good))
    for value in ODD + wrong:
        case.fails(errors.InvalidChanges, 0, made, (value, good))
        case.fails(errors.InvalidChanges, 0, made, (value,))
    case.fails(errors.InvalidChanges, 5, made, (good,) * 6)
    case.fails(errors.InvalidChanges, 5, made, (good,) * 5 + (None,))
    case.fails(errors.InvalidChanges, 1, made, (good, None) + (good,) * 5)
    for many in range(1, 6):
        case.assertEqual(len(made((good,) * many)), many)


def check_lot_class(case, made, changes, texts):
    """Check properties, text and equality of the lots of these tuples of changes, each with its text."""
    for told, text in zip(changes, texts):
        for lot in (made(told), made(changes=told), made.read(text), made.read(text=text)):
            case.assertEqual((lot.changes, lot.text, str(lot), len(lot)), (told, text, text, len(told)))
            case.assertEqual([value.__class__ for value in (lot.changes, lot.text, str(lot))], [tuple, str, str])
            case.assertIs(bool(lot), True)
        for name in ("changes", "text"):
            with case.assertRaises(AttributeError):
                setattr(made(told), name, None)
        for other, name in zip(changes, texts):
            case.assertIs(made(told) == made(other), text == name)
            case.assertIs(made(told) != made(other), text != name)
        for value in ODD + [told, told[0], text]:
            case.assertIs(made(told) == value, False)
            case.assertIs(value == made(told), False)
            case.assertIs(made(told) != value, True)


def check_lot_errors(case, calls, good, change, wrong_lots, wrong_changes):
    """Check NotALot, NotAChange, InvalidPlan and the order of these; `good` has two told changes.

    `calls` has the lists of functions of one lot, two lots, a lot and a change, and the one of a lot and a plan.
    """
    one, two, beside, doing = calls
    for value in ODD + wrong_lots + [change, (change,), str(change), str(good), good.__class__]:
        for call in one:
            case.fails(errors.NotALot, value, call, value)
            case.fails(errors.NotALot, value, call, lot=value)
        for call in two:
            case.fails(errors.NotALot, value, call, value, good)
            case.fails(errors.NotALot, value, call, good, value)
            case.fails(errors.NotALot, value, call, value, None)
            case.fails(errors.NotALot, value, call, other_lot=value, lot=good)
        for call in beside:
            case.fails(errors.NotALot, value, call, value, change)
            case.fails(errors.NotALot, value, call, value, None)
            case.fails(errors.NotALot, value, call, change=None, lot=value)
        case.fails(errors.NotALot, value, doing, value, ())
        case.fails(errors.NotALot, value, doing, plan=None, lot=value)
    for value in ODD + wrong_changes + [good, (change,), str(change), change.__class__]:
        for call in beside:
            case.fails(errors.NotAChange, value, call, good, value)
            case.fails(errors.NotAChange, value, call, change=value, lot=good)
    for value in wrong_plans() + [change, ((change, 1),), good]:
        case.fails(errors.InvalidPlan, value, doing, good, value)
        case.fails(errors.InvalidPlan, value, doing, plan=value, lot=good)


def retold(rng, changes, then, undone, fits):
    """Return changes that make the same: in other orders, some undone, put behind one another, or put twice."""
    told = list(changes)
    for _ in range(8):
        first, second = rng.randrange(len(told)), rng.randrange(len(told))
        if first == second:
            after = undone(told[first])
        else:
            after = then(told[first], told[second]) if rng.random() < 0.5 else then(told[second], told[first])
        if fits(after):
            told[first] = after
    if len(told) < 5:
        told.append(rng.choice(told))
    rng.shuffle(told)
    return tuple(told)
