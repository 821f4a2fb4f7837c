"""Lots of slides: what some slides make, by which plan, and how many cosets they leave."""

from math import gcd, lcm

from pressworlds.errors import InvalidChanges, InvalidText, NotALot
from pressworlds.grids import left_by, times_for
from pressworlds.limits import MOST_NUMBER
from pressworlds.lots import needless_of, told_changes
from pressworlds.plans import check_plan, plan_done, plan_of_parts
from pressworlds.slides import AHEAD, TURNED, Slide, check_slide, slide_often, slide_then


def fits_in_lot(change, _):
    """Return whether a value is a small slide; all slides are of one world."""
    return isinstance(change, Slide) and abs(change.shift) <= MOST_NUMBER


class SlideLot:
    """One to five told slides, with shifts from -10 ** 30 to 10 ** 30."""

    def __init__(self, changes):
        self._changes = told_changes(changes, fits_in_lot)
        self._form = form_of_slides(self._changes)

    @classmethod
    def read(cls, text):
        """Return the lot with this text, a line for each slide."""
        if not isinstance(text, str):
            raise InvalidText(text)
        try:
            return cls(tuple([Slide.read(line) for line in text.split("\n")]))
        except (InvalidText, InvalidChanges):
            raise InvalidText(text) from None

    @property
    def changes(self):
        """The tuple of told slides."""
        return self._changes

    @property
    def text(self):
        """The texts of the told slides, a line for each."""
        return "\n".join([str(slide) for slide in self._changes])

    @property
    def form(self):
        """The pair of the step and the turn."""
        return self._form

    def __str__(self):
        return str(self.text)

    def __len__(self):
        return len(self._changes)

    def __eq__(self, other):
        return isinstance(other, SlideLot) and self.text == other.text


def check_slide_lot(value):
    """Raise NotALot for what is no lot of slides."""
    if not isinstance(value, SlideLot):
        raise NotALot(value)


def check_slide_lots(lot, other_lot):
    """Raise NotALot for the first of two values that is no lot of slides."""
    check_slide_lot(lot)
    check_slide_lot(other_lot)


def check_slide_beside(lot, change):
    """Raise what a lot of slides and a slide do not fulfil."""
    check_slide_lot(lot)
    check_slide(change)


def form_of_slides(slides):
    """Return the form of what these slides, or none, make."""
    turns = [slide.shift for slide in slides if slide.side == TURNED]
    step = 0
    for slide in slides:
        step = gcd(step, slide.shift - turns[0] if slide.side == TURNED else slide.shift)
    return step, (left_by(turns[0], step),) if turns else ()


def is_slide_in(form, slide):
    """Return whether a slide is made by a lot with this form."""
    step, turn = form
    if slide.side == AHEAD:
        return left_by(slide.shift, step) == 0
    return len(turn) == 1 and left_by(slide.shift - turn[0], step) == 0


def is_slide_made(slides, slide):
    """Return whether these slides, or none, make a slide."""
    return is_slide_in(form_of_slides(slides), slide)


def slide_form(lot):
    """Return the form: the step and the turn."""
    check_slide_lot(lot)
    return lot.form


def slide_cosets(lot):
    """Return the number of cosets; None for endlessly many."""
    check_slide_lot(lot)
    step, turn = lot.form
    if step == 0:
        return None
    return step if turn else 2 * step


def slide_makes(lot, change):
    """Return whether a slide is made."""
    check_slide_beside(lot, change)
    return is_slide_in(lot.form, change)


def slide_plan(lot, change):
    """Return a plan that does a slide; None if it is not made."""
    check_slide_beside(lot, change)
    turns = [at for at, slide in enumerate(lot.changes) if slide.side == TURNED]
    first = lot.changes[turns[0]].shift if turns else 0
    tail = ()
    goal = change.shift
    if change.side == TURNED:
        if not turns:
            return None
        tail = ((turns[0], 1),)
        goal = change.shift - first
    # A turn and the first one behind it slide by the difference of their shifts.
    parts = [((at, 1), (turns[0], 1)) if at in turns else at for at in range(len(lot))]
    shifts = [(slide.shift - first,) if slide.side == TURNED else (slide.shift,) for slide in lot.changes]
    counts = times_for(shifts, (goal,))
    return None if counts is None else plan_of_parts(parts, counts) + tail


def slide_doing(lot, plan):
    """Return the slide that a plan does."""
    check_slide_lot(lot)
    check_plan(plan, len(lot))
    return plan_done(plan, lot.changes, Slide(AHEAD, 0), slide_then, slide_often)


def same_slides(lot, other_lot):
    """Return whether both lots make the same slides."""
    check_slide_lots(lot, other_lot)
    return lot.form == other_lot.form


def slides_within(lot, other_lot):
    """Return whether the second lot makes all that the first one makes."""
    check_slide_lots(lot, other_lot)
    return all([is_slide_in(other_lot.form, slide) for slide in lot.changes])


def slide_meet(lot, other_lot):
    """Return the form of the lot of all slides that both lots make."""
    check_slide_lots(lot, other_lot)
    step, turn = lot.form
    other_step, other_turn = other_lot.form
    both = lcm(step, other_step)
    if not turn or not other_turn:
        return both, ()
    counts = times_for([(step,), (other_step,)], (other_turn[0] - turn[0],))
    return both, () if counts is None else (left_by(turn[0] + counts[0] * step, both),)


def needless_slides(lot):
    """Return the indexes of the told slides without which, each by itself, the same lot is made."""
    check_slide_lot(lot)
    return needless_of(lot.changes, is_slide_made)


def slide_mover(lot, other_lot):
    """Return a slide c such that c, then what the first lot makes, then c undone, is just what the other one makes.

    None if there is none. A slide by a moves turns by twice a; other turns put ahead move them no further.
    """
    check_slide_lots(lot, other_lot)
    step, turn = lot.form
    other_step, other_turn = other_lot.form
    if step != other_step or len(turn) != len(other_turn):
        return None
    apart = other_turn[0] - turn[0] if turn else 0
    if apart % 2 != 0:
        apart += step
    return None if apart % 2 else Slide(AHEAD, apart // 2)
