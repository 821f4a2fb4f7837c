"""Views of a line on a screen: a point z of the screen shows a power of the factor times z, and a shift more.

What a view does is also reckoned with as a pair (zoom, shift), whose zoom may be too great for a view.
"""

from pressworlds.checks import check_degree, check_number, is_integer
from pressworlds.errors import InvalidFactor, InvalidNumber, InvalidShift, InvalidText, InvalidZoom
from pressworlds.errors import NotAChange, OtherWorld, TooGreat
from pressworlds.limits import MOST_FACTOR, MOST_ZOOM
from pressworlds.ratios import ZERO, exponent_in, fits, is_ratio, power_of, ratio, ratio_in, ratio_less, ratio_over
from pressworlds.ratios import ratio_plus, ratio_text, ratio_times
from pressworlds.texts import number_in, number_text

LEAST_FACTOR = 2


class View:
    """A view of a line: its factor, its zoom and its shift."""

    def __init__(self, factor, zoom, shift):
        if not is_integer(factor) or factor < LEAST_FACTOR or factor > MOST_FACTOR:
            raise InvalidFactor(factor)
        if not is_integer(zoom) or abs(zoom) > MOST_ZOOM:
            raise InvalidZoom(zoom)
        if not is_ratio(shift) or not fits(shift, factor):
            raise InvalidShift(shift)
        self._factor = factor
        self._zoom = zoom
        self._shift = shift

    @classmethod
    def read(cls, text):
        """Return the view with this text."""
        parts = text.split(" ") if isinstance(text, str) else []
        if len(parts) == 6:
            try:
                view = cls(number_in(parts[1]), number_in(parts[3]), ratio_in(parts[5]))
                if str(view) == text:
                    return view
            except (InvalidFactor, InvalidZoom, InvalidShift):
                raise InvalidText(text) from None
        raise InvalidText(text)

    @property
    def factor(self):
        """The factor of its world."""
        return self._factor

    @property
    def zoom(self):
        """The exponent of the factor."""
        return self._zoom

    @property
    def shift(self):
        """What the point 0 of the screen shows."""
        return self._shift

    def __str__(self):
        return f"screen {self._factor} zoom {number_text(self._zoom)} shift {ratio_text(self._shift)}"

    def __eq__(self, other):
        return isinstance(other, View) and self._factor == other._factor and pair_of(self) == pair_of(other)


def pair_of(view):
    """Return what a view does as a pair."""
    return view.zoom, view.shift


def view_of(factor, pair):
    """Return the view that does what a pair does; TooGreat if its zoom is too great."""
    zoom, shift = pair
    if abs(zoom) > MOST_ZOOM:
        raise TooGreat(zoom)
    return View(factor, zoom, shift)


def check_view(value):
    """Raise NotAChange for what is no view."""
    if not isinstance(value, View):
        raise NotAChange(value)


def check_views(one, other):
    """Raise what two views that are to be of one world do not fulfil."""
    check_view(one)
    check_view(other)
    if one.factor != other.factor:
        raise OtherWorld(other)


def scaled(factor, zoom, number):
    """Return a fraction times a power of the factor."""
    return ratio_times(power_of(factor, zoom), number)


def pair_then(factor, one, other):
    """Return the one pair, then the other one."""
    return one[0] + other[0], ratio_plus(one[1], scaled(factor, one[0], other[1]))


def pair_often(factor, pair, times):
    """Return a pair so many times; the shifts, each scaled by the zooms ahead of it, are summed up at once."""
    zoom, shift = pair
    # A pair that is done no times may have a zoom with which no power could be reckoned.
    if times == 0:
        return 0, ZERO
    if zoom == 0:
        return 0, ratio_times((times, 1), shift)
    return zoom * times, ratio_times(shift, ratio_over(growth(factor, zoom * times), growth(factor, zoom)))


def growth(factor, zoom):
    """Return the difference of a power of the factor and 1."""
    return ratio_less(power_of(factor, zoom), (1, 1))


def pair_undone(factor, pair):
    """Return the pair with which this one is still."""
    return pair_often(factor, pair, -1)


def view_then(one, other):
    """Return the one view, then the other one."""
    check_views(one, other)
    return view_of(one.factor, pair_then(one.factor, pair_of(one), pair_of(other)))


def view_undone(one):
    """Return the view with which this one is still."""
    return view_often(one, -1)


def view_often(one, times):
    """Return the view so many times, undone for times below 0."""
    check_view(one)
    check_number(times)
    # A power with a number of 40 digits as exponent could not even be reckoned.
    if abs(one.zoom * times) > MOST_ZOOM:
        raise TooGreat(one.zoom * times)
    return view_of(one.factor, pair_often(one.factor, pair_of(one), times))


def view_order(one):
    """Return the least number from 1 on of times that are still; None if there is none."""
    check_view(one)
    return 1 if pair_of(one) == (0, ZERO) else None


def view_gap(one, other):
    """Return one, other, one undone, other undone."""
    check_views(one, other)
    factor = one.factor
    ahead = pair_then(factor, pair_of(one), pair_of(other))
    back = pair_then(factor, pair_undone(factor, pair_of(one)), pair_undone(factor, pair_of(other)))
    return view_of(factor, pair_then(factor, ahead, back))


def view_shows(one, point):
    """Return the fraction that is shown at a point of the screen, a fraction, too."""
    check_view(one)
    if not is_ratio(point):
        raise InvalidNumber(point)
    return ratio_plus(scaled(one.factor, one.zoom, point), one.shift)


def view_stays(one):
    """Return the tuple of the points that the view shows at themselves; None if it does so with all."""
    check_view(one)
    if one.zoom != 0:
        return (ratio_over(ratio_less(ZERO, one.shift), growth(one.factor, one.zoom)),)
    return None if one.shift == ZERO else ()


def is_view_alike(one, other):
    """Return whether some view ahead, and its undone one behind, makes the first view the other one."""
    check_views(one, other)
    return pair_between(one, other) is not None


def view_alike(one, other):
    """Return a view c such that c, then the first one, then c undone, is the other one; None if there is none."""
    check_views(one, other)
    pair = pair_between(one, other)
    return None if pair is None else view_of(one.factor, pair)


def pair_between(one, other):
    """Return what some c as in `view_alike` does, its zoom perhaps too great for a view; None if there is none."""
    if one.zoom != other.zoom:
        return None
    if one.zoom != 0:
        return pair_between_zoomed(one, other)
    if one.shift == other.shift:
        return 0, ZERO
    if one.shift == ZERO or other.shift == ZERO:
        return None
    exponent = exponent_in(ratio_over(other.shift, one.shift), one.factor)
    return None if exponent is None else (exponent, ZERO)


def pair_between_zoomed(one, other):
    """Return the same for two views with one zoom other than 0.

    A c with the zoom j and the shift e makes of the shift b of the first view its power j of the factor
    times b, less e times the growth of the view. Only the zooms below that of the view need be tried, as
    the view itself put ahead does not count. All bottoms divide powers of the factor, with which the
    growth has no divisor in common; so both shifts can be multiplied by them.
    """
    factor = one.factor
    apart = growth(factor, abs(one.zoom))[0]
    bottom = one.shift[1] * other.shift[1]
    power = ratio_times((bottom, 1), one.shift)[0]
    goal = ratio_times((bottom, 1), other.shift)[0]
    for zoom in range(abs(one.zoom)):
        if (goal - power) % apart == 0:
            left = ratio_less(scaled(factor, zoom, one.shift), other.shift)
            return zoom, ratio_over(left, growth(factor, one.zoom))
        power = power * factor
    return None


def do_views_commute(one, other):
    """Return whether it is the same which of both is first."""
    check_views(one, other)
    ahead = pair_then(one.factor, pair_of(one), pair_of(other))
    return ahead == pair_then(one.factor, pair_of(other), pair_of(one))


def view_root(one, degree):
    """Return the view that is the first one when done so many times; None if there is none."""
    check_view(one)
    check_degree(degree)
    if one.zoom % degree != 0:
        return None
    zoom = one.zoom // degree
    share = ratio(1, degree)
    if zoom != 0:
        share = ratio_over(growth(one.factor, zoom), growth(one.factor, one.zoom))
    shift = ratio_times(share, one.shift)
    return View(one.factor, zoom, shift) if fits(shift, one.factor) else None
