"""What several tests need: plain reckoning with words, checks of errors, calls by position and by name."""

import inspect
import unittest

ODD = [True, False, None, [], (), {}, "", "x", "rows 2 ab", b"ab", 0, 1, -1, 2, 7, 10 ** 40, (1,), ("a",), [1, 2],
       {"a": 1}, object(), len, int, frozenset(), range(3), ((0, 1),), (True, False), [("a", 1)], (None, None)]


class Case(unittest.TestCase):
    """A test case that can check which error a call raises, with which attribute."""

    def fails(self, error, told, call, *args, **named):
        """Check the very class of the error, and that its attribute is the very value (or None, or this integer)."""
        with self.assertRaises(error) as caught:
            call(*args, **named)
        self.assertIs(caught.exception.__class__, error)
        attribute = "index" if "index" in inspect.signature(error).parameters else "given"
        value = getattr(caught.exception, attribute)
        self.assertIs(value.__class__, told.__class__)
        if isinstance(told, int):
            self.assertEqual(value, told)
        else:
            self.assertIs(value, told)

    def same_by_name(self, call, *args):
        """Check that a call by position and by the names of the signature gives the same, and return it."""
        names = list(inspect.signature(call).parameters)
        self.assertEqual(len(names), len(args))
        by_position = call(*args)
        by_name = call(**dict(zip(names, args)))
        self.assertEqual(by_position, by_name)
        self.assertIs(by_position.__class__, by_name.__class__)
        return by_position

    def has_signature(self, call, *names):
        """Check the names of the parameters of a function, or of a class."""
        self.assertEqual(list(inspect.signature(call).parameters), list(names), call)


def check_defined(case, module, functions, classes):
    """Check that functions and classes are defined in a module, and methods in their classes, with these parameters."""
    for name, parameters in functions.items():
        call = getattr(module, name)
        case.assertTrue(inspect.isfunction(call), name)
        case.assertEqual(call.__module__, module.__name__, name)
        case.has_signature(call, *parameters.split())
    for name, (parameters, methods) in classes.items():
        made = getattr(module, name)
        case.assertTrue(inspect.isclass(made), name)
        case.assertEqual(made.__module__, module.__name__, name)
        case.has_signature(made, *parameters.split())
        for method in methods.split():
            case.assertIn(method, made.__dict__, f"{name}.{method}")


def struck(word):
    """Return the reduced word, by striking the first two neighbours that are opposite, again and again."""
    at = 0
    while at + 1 < len(word):
        if word[at] == word[at + 1].swapcase():
            word = word[:at] + word[at + 2:]
            at = max(0, at - 1)
        else:
            at += 1
    return word


def back(word):
    """Return the word undone."""
    return "".join(letter.swapcase() for letter in reversed(word))


def words_up_to(letters, most):
    """Return all reduced words with at most so many letters, the shorter ones first."""
    ways = "aAbBcCdD"[:2 * letters]
    found, last = [""], [""]
    for _ in range(most):
        last = [word + way for word in last for way in ways if not word or word[-1] != way.swapcase()]
        found += last
    return found


def random_word(rng, letters, size):
    """Return a random reduced word with so many letters."""
    word = ""
    while len(word) < size:
        way = rng.choice("aAbBcCdD"[:2 * letters])
        if not word or word[-1] != way.swapcase():
            word += way
    return word


def flat(plan):
    """Return a plan over indexes as a list of indexes and signs, each press by itself."""
    presses = []
    for part, times in plan:
        inner = flat(part) if isinstance(part, tuple) else [(part, 1)]
        if times < 0:
            inner = [(index, -sign) for index, sign in reversed(inner)]
        presses += inner * abs(times)
    return presses
