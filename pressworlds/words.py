"""Words of letters, in which a letter beside its opposite is struck.

Words that come in are reduced unless it is told otherwise; those that go out always are.
"""

from pressworlds.errors import TooGreat
from pressworlds.limits import MOST_ROW

WAYS = "aAbBcCdD"


def ways_of(letters):
    """Return the first so many letters, each with its capital behind it."""
    return WAYS[:2 * letters]


def is_word(letters, word):
    """Return whether a value is a word, reduced or not, of the first so many letters."""
    if not isinstance(word, str) or len(word) > MOST_ROW:
        return False
    ways = ways_of(letters)
    return all([letter in ways for letter in word])


def word_reduced(word):
    """Return what is left of any word when opposite neighbours are struck."""
    left = []
    for letter in word:
        if left and left[-1] == letter.swapcase():
            left.pop()
        else:
            left.append(letter)
    return "".join(left)


def word_undone(word):
    """Return the word read back, each letter exchanged for its opposite."""
    return word[::-1].swapcase()


def word_then(first, second):
    """Return the one word with the other one behind it."""
    most = min(len(first), len(second))
    struck = 0
    while struck < most and first[len(first) - 1 - struck] == second[struck].swapcase():
        struck += 1
    return first[:len(first) - struck] + second[struck:]


def word_fitting(word):
    """Return the word; TooGreat if no row has so many letters."""
    if len(word) > MOST_ROW:
        raise TooGreat(len(word))
    return word


def word_fitting_then(first, second):
    """Return the one word, then the other one; TooGreat if a row cannot be so long."""
    return word_fitting(word_then(first, second))


def word_often(word, times):
    """Return the word so many times; TooGreat, before it is written, if a row cannot be so long."""
    # Python cannot even repeat the empty word as often as a number of 40 digits tells.
    if times == 0 or not word:
        return ""
    neck, middle = neck_and_round(word)
    many = 2 * len(neck) + abs(times) * len(middle)
    if many > MOST_ROW:
        raise TooGreat(many)
    if times < 0:
        middle = word_undone(middle)
    return neck + middle * abs(times) + word_undone(neck)


def neck_and_round(word):
    """Return the neck and the round part of a word."""
    deep = 0
    last = len(word) - 1
    while deep < last - deep and word[deep] == word[last - deep].swapcase():
        deep += 1
    return word[:deep], word[deep:len(word) - deep]


def beat_of(middle):
    """Return the shortest word that a round part is some times over, and how many times; no times if it is empty."""
    many = len(middle)
    for size in range(1, many + 1):
        if many % size == 0 and middle[:size] * (many // size) == middle:
            return middle[:size], many // size
    return "", 0


def turns_of(middle):
    """Return the unlike turns of a round part, ascending."""
    return sorted(set([middle[at:] + middle[:at] for at in range(max(1, len(middle)))]))


def turn_between(middle, other):
    """Return how many letters of the first round part go to its end to make the other one; None if no turn does."""
    if len(middle) != len(other):
        return None
    at = (middle + middle).find(other)
    return None if at < 0 else at
