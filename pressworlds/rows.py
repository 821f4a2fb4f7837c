"""Rows of letters, in which a letter cancels with its opposite beside it."""

from pressworlds.checks import check_degree, check_number, is_integer
from pressworlds.errors import InvalidLetters, InvalidText, InvalidWord, NotAChange, OtherWorld
from pressworlds.limits import MOST_LETTERS
from pressworlds.words import beat_of, is_word, neck_and_round, turn_between, turns_of
from pressworlds.words import word_fitting, word_fitting_then, word_often, word_reduced, word_then, word_undone

LETTER_COUNTS = ("1", "2", "3", "4")


class Row:
    """A row of presses: a number of letters, and a reduced word of these."""

    def __init__(self, letters, word):
        if not is_integer(letters) or letters < 1 or letters > MOST_LETTERS:
            raise InvalidLetters(letters)
        if not is_word(letters, word):
            raise InvalidWord(word)
        self._letters = letters
        self._word = word_reduced(word)

    @classmethod
    def read(cls, text):
        """Return the row with this text."""
        parts = text.split(" ") if isinstance(text, str) else []
        if len(parts) == 3 and parts[1] in LETTER_COUNTS:
            word = "" if parts[2] == "-" else parts[2]
            if is_word(int(parts[1]), word):
                row = cls(int(parts[1]), word)
                if str(row) == text:
                    return row
        raise InvalidText(text)

    @property
    def letters(self):
        """The number of letters of its world."""
        return self._letters

    @property
    def word(self):
        """The reduced word."""
        return self._word

    def __str__(self):
        return f"rows {self._letters} {self._word or '-'}"

    def __len__(self):
        return len(self._word)

    def __bool__(self):
        # Without it the still row, having no letters, would not be true.
        return True

    def __eq__(self, other):
        return isinstance(other, Row) and self._letters == other._letters and self._word == other._word


def check_row(value):
    """Raise NotAChange for what is no row."""
    if not isinstance(value, Row):
        raise NotAChange(value)


def check_rows(one, other):
    """Raise what two rows that are to be of one world do not fulfil."""
    check_row(one)
    check_row(other)
    if one.letters != other.letters:
        raise OtherWorld(other)


def row_then(one, other):
    """Return the one row, then the other one."""
    check_rows(one, other)
    return Row(one.letters, word_fitting_then(one.word, other.word))


def row_undone(one):
    """Return the row read back, each letter exchanged for its opposite."""
    check_row(one)
    return Row(one.letters, word_undone(one.word))


def row_often(one, times):
    """Return the row so many times, undone for times below 0."""
    check_row(one)
    check_number(times)
    return Row(one.letters, word_often(one.word, times))


def row_order(one):
    """Return the least number from 1 on of times that are still; None if there is none."""
    check_row(one)
    return None if one.word else 1


def row_gap(one, other):
    """Return one, other, one undone, other undone."""
    check_rows(one, other)
    ahead = word_then(one.word, other.word)
    back = word_then(word_undone(one.word), word_undone(other.word))
    return Row(one.letters, word_fitting(word_then(ahead, back)))


def is_row_alike(one, other):
    """Return whether some row ahead, and its undone one behind, makes the first row the other one."""
    return row_alike(one, other) is not None


def row_alike(one, other):
    """Return a row c such that c, then the first row, then c undone, is the other one; None if there is none."""
    check_rows(one, other)
    neck, middle = neck_and_round(one.word)
    other_neck, other_middle = neck_and_round(other.word)
    turned = turn_between(middle, other_middle)
    if turned is None:
        return None
    to_turn = word_then(other_neck, word_undone(middle[:turned]))
    return Row(one.letters, word_then(to_turn, word_undone(neck)))


def do_rows_commute(one, other):
    """Return whether it is the same which of both is first."""
    check_rows(one, other)
    return word_then(one.word, other.word) == word_then(other.word, one.word)


def row_root(one, degree):
    """Return the row that is the first one when done so many times; None if there is none."""
    check_row(one)
    check_degree(degree)
    neck, middle = neck_and_round(one.word)
    beat, many = beat_of(middle)
    if many % degree != 0:
        return None
    return Row(one.letters, neck + beat * (many // degree) + word_undone(neck))


def root_of_row(row):
    """Return the pair of the root of a row and its exponent."""
    check_row(row)
    neck, middle = neck_and_round(row.word)
    beat, many = beat_of(middle)
    return Row(row.letters, neck + beat + word_undone(neck)), many


def row_turns(row):
    """Return the unlike turns of the round part as rows, their words ascending."""
    check_row(row)
    middle = neck_and_round(row.word)[1]
    return tuple([Row(row.letters, turn) for turn in turns_of(middle)])


def row_least(row):
    """Return the first one of its turns."""
    return row_turns(row)[0]
