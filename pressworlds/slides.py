"""Slides along a ruler, which may turn it about."""

from pressworlds.checks import check_degree, check_number, is_integer
from pressworlds.errors import InvalidSide, InvalidText, NotAChange
from pressworlds.texts import number_in, number_text

AHEAD = 1
TURNED = -1
SIGNS = {1: "+", -1: "-"}
SIDES = {"+": 1, "-": -1}


class Slide:
    """A slide: it takes each mark x to its shift + its side times x."""

    def __init__(self, side, shift):
        if not is_integer(side) or side not in (AHEAD, TURNED):
            raise InvalidSide(side)
        check_number(shift)
        self._side = side
        self._shift = shift

    @classmethod
    def read(cls, text):
        """Return the slide with this text."""
        parts = text.split(" ") if isinstance(text, str) else []
        if len(parts) == 3 and parts[1] in SIDES:
            shift = number_in(parts[2])
            if shift is not None:
                slide = cls(SIDES[parts[1]], shift)
                if str(slide) == text:
                    return slide
        raise InvalidText(text)

    @property
    def side(self):
        """1, or -1 for a turn."""
        return self._side

    @property
    def shift(self):
        """The mark to which it takes 0."""
        return self._shift

    def __str__(self):
        return f"ruler {SIGNS[self._side]} {number_text(self._shift)}"

    def __eq__(self, other):
        return isinstance(other, Slide) and self._side == other._side and self._shift == other._shift


def check_slide(value):
    """Raise NotAChange for what is no slide."""
    if not isinstance(value, Slide):
        raise NotAChange(value)


def check_slides(one, other):
    """Raise NotAChange for the first of two values that is no slide."""
    check_slide(one)
    check_slide(other)


def slide_then(one, other):
    """Return the one slide, then the other one."""
    check_slides(one, other)
    return Slide(one.side * other.side, one.shift + one.side * other.shift)


def slide_undone(one):
    """Return the slide with which this one is still."""
    check_slide(one)
    return Slide(one.side, -one.side * one.shift)


def slide_often(one, times):
    """Return the slide so many times, undone for times below 0."""
    check_slide(one)
    check_number(times)
    if one.side == AHEAD:
        return Slide(AHEAD, times * one.shift)
    return one if times % 2 else Slide(AHEAD, 0)


def slide_order(one):
    """Return the least number from 1 on of times that are still; None if there is none."""
    check_slide(one)
    if one.side == TURNED:
        return 2
    return None if one.shift else 1


def slide_gap(one, other):
    """Return one, other, one undone, other undone."""
    back = slide_then(slide_undone(one), slide_undone(other))
    return slide_then(slide_then(one, other), back)


def slide_at(one, mark):
    """Return the mark to which the slide takes this one."""
    check_slide(one)
    check_number(mark)
    return one.shift + one.side * mark


def is_slide_alike(one, other):
    """Return whether some slide ahead, and its undone one behind, makes the first slide the other one."""
    return slide_alike(one, other) is not None


def slide_alike(one, other):
    """Return a slide c such that c, then the first one, then c undone, is the other one; None if there is none."""
    check_slides(one, other)
    if one.side != other.side:
        return None
    apart = other.shift - one.shift
    if one.side == TURNED:
        return None if apart % 2 else Slide(AHEAD, apart // 2)
    if apart == 0:
        return Slide(AHEAD, 0)
    return Slide(TURNED, 0) if other.shift == -one.shift else None


def do_slides_commute(one, other):
    """Return whether it is the same which of both is first."""
    return slide_then(one, other) == slide_then(other, one)


def slide_root(one, degree):
    """Return a slide that is the first one when done so many times; None if there is none."""
    check_slide(one)
    check_degree(degree)
    if one.side == TURNED:
        return one if degree % 2 else None
    return None if one.shift % degree else Slide(AHEAD, one.shift // degree)
