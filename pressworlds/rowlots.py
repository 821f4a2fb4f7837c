"""Lots of rows: what some rows make, by which plan, and how many cosets they leave."""

from pressworlds.bridges import Bridges, presses_for_word
from pressworlds.errors import InvalidChanges, InvalidText, NotALot, OtherWorld, TooFar
from pressworlds.limits import MOST_SMALL_ROW
from pressworlds.lots import needless_of, told_changes
from pressworlds.plans import check_plan, plan_done
from pressworlds.rows import Row, check_row
from pressworlds.webs import common_form, form_of_words, is_full, lets, place_count, steps_of
from pressworlds.words import word_fitting_then, word_often

MOST_NEAR_ROW = 200


def fits_in_lot(change, first):
    """Return whether a value is a small row with as many letters as the first one."""
    return isinstance(change, Row) and len(change) <= MOST_SMALL_ROW and change.letters == first.letters


class RowLot:
    """One to five told rows, each with at most 12 letters."""

    def __init__(self, changes):
        self._changes = told_changes(changes, fits_in_lot)
        self._form = form_of_words([row.word for row in self._changes])

    @classmethod
    def read(cls, text):
        """Return the lot with this text, a line for each row."""
        if not isinstance(text, str):
            raise InvalidText(text)
        try:
            return cls(tuple([Row.read(line) for line in text.split("\n")]))
        except (InvalidText, InvalidChanges):
            raise InvalidText(text) from None

    @property
    def changes(self):
        """The tuple of told rows."""
        return self._changes

    @property
    def text(self):
        """The texts of the told rows, a line for each."""
        return "\n".join([str(row) for row in self._changes])

    @property
    def letters(self):
        """The number of letters of its world."""
        return self._changes[0].letters

    @property
    def words(self):
        """The list of the words of the told rows."""
        return [row.word for row in self._changes]

    @property
    def form(self):
        """The ascending tuple of the ties of its folded web."""
        return self._form

    def __str__(self):
        return str(self.text)

    def __len__(self):
        return len(self._changes)

    def __eq__(self, other):
        return isinstance(other, RowLot) and self.text == other.text


def check_row_lot(value):
    """Raise NotALot for what is no lot of rows."""
    if not isinstance(value, RowLot):
        raise NotALot(value)


def check_row_lots(lot, other_lot):
    """Raise what two lots of rows that are to be of one world do not fulfil."""
    check_row_lot(lot)
    check_row_lot(other_lot)
    if lot.letters != other_lot.letters:
        raise OtherWorld(other_lot)


def check_row_beside(lot, change):
    """Raise what a lot of rows and a row of its world do not fulfil."""
    check_row_lot(lot)
    check_row(change)
    if lot.letters != change.letters:
        raise OtherWorld(change)


def row_form(lot):
    """Return the form: the ascending tuple of the ties of the folded web."""
    check_row_lot(lot)
    return lot.form


def row_cosets(lot):
    """Return the number of cosets; None for endlessly many."""
    check_row_lot(lot)
    places = place_count(lot.form)
    return places if is_full(steps_of(lot.form), places, lot.letters) else None


def row_makes(lot, change):
    """Return whether a row is made."""
    check_row_beside(lot, change)
    return lets(steps_of(lot.form), change.word)


def row_plan(lot, change):
    """Return a plan that does a near row; None if it is not made."""
    check_row_beside(lot, change)
    if len(change) > MOST_NEAR_ROW:
        raise TooFar(change)
    if not lets(steps_of(lot.form), change.word):
        return None
    return tuple(presses_for_word(Bridges(lot.words), change.word))


def row_doing(lot, plan):
    """Return the row that a plan does."""
    check_row_lot(lot)
    check_plan(plan, len(lot))
    return Row(lot.letters, plan_done(plan, lot.words, "", word_fitting_then, word_often))


def same_rows(lot, other_lot):
    """Return whether both lots make the same rows."""
    check_row_lots(lot, other_lot)
    return lot.form == other_lot.form


def rows_within(lot, other_lot):
    """Return whether the second lot makes all that the first one makes."""
    check_row_lots(lot, other_lot)
    steps = steps_of(other_lot.form)
    return all([lets(steps, word) for word in lot.words])


def row_meet(lot, other_lot):
    """Return the form of the lot of all rows that both lots make."""
    check_row_lots(lot, other_lot)
    return common_form(lot.form, other_lot.form)


def needless_rows(lot):
    """Return the indexes of the told rows without which, each by itself, the same lot is made."""
    check_row_lot(lot)
    return needless_of(lot.words, is_word_made)


def is_word_made(words, word):
    """Return whether rows with these words make the row with this one."""
    return lets(steps_of(form_of_words(words)), word)
