"""Lots of views: what some views make, by which plan, and how many cosets they leave.

What views do is reckoned with as pairs (zoom, shift). The way of a lot is a pair whose zoom is the
step of the form, done by a plan over the told views; each told one, with the way so often ahead
that its zoom is gone, is a flat one. Flat ones, with the way ahead and undone behind, have their
shifts scaled; so what the lot makes with zoom 0 are all sums of so scaled shifts.
"""

from math import gcd

from pressworlds.errors import InvalidChanges, InvalidText, NotALot, OtherWorld, TooFar
from pressworlds.grids import left_by, times_for
from pressworlds.lots import needless_of, told_changes
from pressworlds.plans import check_plan, plan_done, plan_of_parts
from pressworlds.ratios import ZERO, fits, ratio, ratio_less, ratio_over, stripped
from pressworlds.views import View, check_view, pair_of, pair_often, pair_then, scaled, view_often, view_then

MOST_SMALL_ZOOM = 4
MOST_SMALL_SHIFT = 100
MOST_NEAR_ZOOM = 8
MOST_NEAR_SHIFT = 1000


def is_within(view, zoom, shift, bottom):
    """Return whether zoom and shift of a view are not beyond these, and the bottom of its shift divides this one."""
    over, under = view.shift
    return abs(view.zoom) <= zoom and abs(over) <= shift * under and bottom % under == 0


def fits_in_lot(change, first):
    """Return whether a value is a small view with the factor of the first one."""
    if not isinstance(change, View) or change.factor != first.factor:
        return False
    return is_within(change, MOST_SMALL_ZOOM, MOST_SMALL_SHIFT, change.factor ** 4)


class ViewLot:
    """One to five told views, with zooms from -4 to 4, and shifts from -100 to 100 with small bottoms."""

    def __init__(self, changes):
        self._changes = told_changes(changes, fits_in_lot)
        self._form = form_of_pairs(self.factor, self.pairs)

    @classmethod
    def read(cls, text):
        """Return the lot with this text, a line for each view."""
        if not isinstance(text, str):
            raise InvalidText(text)
        try:
            return cls(tuple([View.read(line) for line in text.split("\n")]))
        except (InvalidText, InvalidChanges):
            raise InvalidText(text) from None

    @property
    def changes(self):
        """The tuple of told views."""
        return self._changes

    @property
    def text(self):
        """The texts of the told views, a line for each."""
        return "\n".join([str(view) for view in self._changes])

    @property
    def factor(self):
        """The factor of its world."""
        return self._changes[0].factor

    @property
    def pairs(self):
        """The list of what the told views do."""
        return [pair_of(view) for view in self._changes]

    @property
    def form(self):
        """The triple of step, gauge and head."""
        return self._form

    def __str__(self):
        return str(self.text)

    def __len__(self):
        return len(self._changes)

    def __eq__(self, other):
        return isinstance(other, ViewLot) and self.text == other.text


def check_view_lot(value):
    """Raise NotALot for what is no lot of views."""
    if not isinstance(value, ViewLot):
        raise NotALot(value)


def check_view_lots(lot, other_lot):
    """Raise what two lots of views that are to be of one world do not fulfil."""
    check_view_lot(lot)
    check_view_lot(other_lot)
    if lot.factor != other_lot.factor:
        raise OtherWorld(other_lot)


def is_near_view(view):
    """Return whether a view is a near one."""
    return is_within(view, MOST_NEAR_ZOOM, MOST_NEAR_SHIFT, view.factor ** 8)


def check_near_view(lot, change):
    """Raise what a lot of views and a near view of its world do not fulfil."""
    check_view_lot(lot)
    check_view(change)
    if lot.factor != change.factor:
        raise OtherWorld(change)
    if not is_near_view(change):
        raise TooFar(change)


def way_counts(pairs):
    """Return the step, and how often each pair is in the way; the plan of the way does them in order."""
    step = 0
    for zoom, _ in pairs:
        step = gcd(step, zoom)
    return step, times_for([(zoom,) for zoom, _ in pairs], (step,))


def pairs_done(factor, pairs, counts):
    """Return what pairs do, each so many times, one behind another."""
    total = (0, ZERO)
    for pair, times in zip(pairs, counts):
        total = pair_then(factor, total, pair_often(factor, pair, times))
    return total


def flat_shifts(factor, pairs, way):
    """Return the shifts of the pairs, each with the way so often ahead that its zoom is gone."""
    if way[0] == 0:
        return [shift for _, shift in pairs]
    return [pair_then(factor, pair_often(factor, way, -(pair[0] // way[0])), pair)[1] for pair in pairs]


def with_one_bottom(shifts):
    """Return integers and one bottom, such that these integers, divided by it, are the shifts."""
    bottom = 1
    for shift in shifts:
        bottom = bottom * shift[1]
    return [shift[0] * (bottom // shift[1]) for shift in shifts], bottom


def form_of_pairs(factor, pairs):
    """Return the form of what these pairs, or none, make."""
    step, counts = way_counts(pairs)
    way = pairs_done(factor, pairs, counts) if step else (0, ZERO)
    tops, bottom = with_one_bottom(flat_shifts(factor, pairs, way))
    shared = 0
    for top in tops:
        shared = gcd(shared, top)
    if step == 0:
        return 0, ratio(shared, bottom), ()
    if shared == 0:
        return step, ZERO, (way[1],)
    gauge = stripped(shared, factor)
    return step, (gauge, 1), ((whole_rest(way[1], gauge), 1),)


def whole_rest(shift, gauge):
    """Return the integer from 0 to one less than a gauge that differs from a shift by the gauge times what fits."""
    # The bottom has no divisor in common with the gauge, so some number times it leaves what the top leaves.
    return times_for([(shift[1],), (gauge,)], (shift[0],))[0] % gauge


def is_pair_in(factor, form, pair):
    """Return whether a pair is made by a lot with this form."""
    step, gauge, head = form
    zoom, shift = pair
    if left_by(zoom, step) != 0:
        return False
    if step == 0:
        return shift == ZERO or gauge != ZERO and ratio_over(shift, gauge)[1] == 1
    rest = ratio_less(shift, pair_often(factor, (step, head[0]), zoom // step)[1])
    return rest == ZERO or gauge != ZERO and fits(ratio_over(rest, gauge), factor)


def is_view_made(views, view):
    """Return whether these views, or none, make a view."""
    form = form_of_pairs(view.factor, [pair_of(each) for each in views])
    return is_pair_in(view.factor, form, pair_of(view))


def view_form(lot):
    """Return the form: step, gauge and head."""
    check_view_lot(lot)
    return lot.form


def view_cosets(lot):
    """Return the number of cosets; None for endlessly many."""
    check_view_lot(lot)
    step, gauge, _ = lot.form
    return step * gauge[0] or None


def view_makes(lot, change):
    """Return whether a near view is made."""
    check_near_view(lot, change)
    return is_pair_in(lot.factor, lot.form, pair_of(change))


def view_plan(lot, change):
    """Return a plan that does a near view; None if it is not made."""
    check_near_view(lot, change)
    if not is_pair_in(lot.factor, lot.form, pair_of(change)):
        return None
    step, counts = way_counts(lot.pairs)
    if step == 0:
        return flat_plan(list(range(len(lot))), [shift for _, shift in lot.pairs], change.shift)
    way = pairs_done(lot.factor, lot.pairs, counts)
    way_plan = plan_of_parts(list(range(len(lot))), counts)
    parts = [flat_part(at, pair[0] // step, way_plan) for at, pair in enumerate(lot.pairs)]
    shifts = flat_shifts(lot.factor, lot.pairs, way)
    ways = change.zoom // step
    rest = ratio_less(change.shift, pair_often(lot.factor, way, ways)[1])
    # Where the bottom of the rest is too great for the flat ones, all is done with the way undone ahead.
    deep = 0
    plan = flat_plan(parts, shifts, rest)
    while plan is None:
        deep += 1
        plan = flat_plan(parts, shifts, scaled(lot.factor, deep * step, rest))
    return plan_of_parts([way_plan], [-deep]) + plan + plan_of_parts([way_plan], [deep + ways])


def flat_part(at, ways, way_plan):
    """Return the part that does a told one with the way, undone, so often ahead."""
    return ((way_plan, -ways), (at, 1)) if ways else at


def flat_plan(parts, shifts, goal):
    """Return the plan of parts with zoom 0 and these shifts that add up to another shift; None if they never do."""
    tops = with_one_bottom(shifts + [goal])[0]
    counts = times_for([(top,) for top in tops[:-1]], (tops[-1],))
    return None if counts is None else plan_of_parts(parts, counts)


def view_doing(lot, plan):
    """Return the view that a plan does."""
    check_view_lot(lot)
    check_plan(plan, len(lot))
    return plan_done(plan, lot.changes, View(lot.factor, 0, ZERO), view_then, view_often)


def same_views(lot, other_lot):
    """Return whether both lots make the same views."""
    check_view_lots(lot, other_lot)
    return lot.form == other_lot.form


def views_within(lot, other_lot):
    """Return whether the second lot makes all that the first one makes."""
    check_view_lots(lot, other_lot)
    return all([is_pair_in(lot.factor, other_lot.form, pair) for pair in lot.pairs])


def needless_views(lot):
    """Return the indexes of the told views without which, each by itself, the same lot is made."""
    check_view_lot(lot)
    return needless_of(lot.changes, is_view_made)
