"""Lots of rounds: what some rounds make, by which plan, and how many cosets they leave.

What rounds do is reckoned with as pairs of a picture and an end. The way of a lot is a pair whose end
is the greatest common divisor of all ends, done by a plan over the told rounds; each told one, with
the way so often ahead that its end is gone, is a flat one. Flat ones, with the way ahead and undone
behind, are moved; so what the lot makes with the end 0 are all sums of so moved flat ones.
"""

from math import gcd

from pressworlds.errors import InvalidChanges, InvalidText, NotALot, OtherWorld, TooFar
from pressworlds.grids import left_by, times_for
from pressworlds.lots import needless_of, told_changes
from pressworlds.pictures import changed, lamps_of, picture_of, trip_often, trip_then, with_more
from pressworlds.plans import check_plan, plan_done, plan_of_parts
from pressworlds.rounds import MOST_NEAR_PLACE, Round, check_round, is_near_round, round_often, round_then, trip_of
from pressworlds.spans import head_rest, heads_of, part_size, shares_of, taken_by_heads

MOST_SMALL_PLACE = 24
MOST_SMALL_END = 8
# Without ends each place of a near round, all of them moved from -40 to 0, is a part of its own.
STEP_WITHOUT_ENDS = 81


def fits_in_lot(change, first):
    """Return whether a value is a small round with as many levels as the first one."""
    if not isinstance(change, Round) or change.levels != first.levels or abs(change.end) > MOST_SMALL_END:
        return False
    return all([abs(place) <= MOST_SMALL_PLACE for place, _ in change.lamps])


class RoundLot:
    """One to five told rounds, with lamps at places from -24 to 24 and ends from -8 to 8."""

    def __init__(self, changes):
        self._changes = told_changes(changes, fits_in_lot)
        self._form = form_of_trips(self.levels, self.trips)

    @classmethod
    def read(cls, text):
        """Return the lot with this text, a line for each round."""
        if not isinstance(text, str):
            raise InvalidText(text)
        try:
            return cls(tuple([Round.read(line) for line in text.split("\n")]))
        except (InvalidText, InvalidChanges):
            raise InvalidText(text) from None

    @property
    def changes(self):
        """The tuple of told rounds."""
        return self._changes

    @property
    def text(self):
        """The texts of the told rounds, a line for each."""
        return "\n".join([str(told) for told in self._changes])

    @property
    def levels(self):
        """The number of levels of its lamps."""
        return self._changes[0].levels

    @property
    def trips(self):
        """The list of what the told rounds do, pairs of a picture and an end."""
        return [trip_of(told) for told in self._changes]

    @property
    def form(self):
        """The triple of the divisor of the ends, the pictures and the trip."""
        return self._form

    def __str__(self):
        return str(self.text)

    def __len__(self):
        return len(self._changes)

    def __eq__(self, other):
        return isinstance(other, RoundLot) and self.text == other.text


def check_round_lot(value):
    """Raise NotALot for what is no lot of rounds."""
    if not isinstance(value, RoundLot):
        raise NotALot(value)


def check_round_lots(lot, other_lot):
    """Raise what two lots of rounds that are to be of one world do not fulfil."""
    check_round_lot(lot)
    check_round_lot(other_lot)
    if lot.levels != other_lot.levels:
        raise OtherWorld(other_lot)


def check_near_round(lot, change):
    """Raise what a lot of rounds and a near round of its world do not fulfil."""
    check_round_lot(lot)
    check_round(change)
    if lot.levels != change.levels:
        raise OtherWorld(change)
    if not is_near_round(change):
        raise TooFar(change)


def way_counts(trips):
    """Return the divisor of the ends, and how often each trip is in the way; the plan of the way does them in order."""
    divisor = 0
    for _, end in trips:
        divisor = gcd(divisor, end)
    return divisor, times_for([(end,) for _, end in trips], (divisor,))


def trips_done(levels, trips, counts):
    """Return what trips do, each so many times, one behind another."""
    total = ({}, 0)
    for trip, times in zip(trips, counts):
        total = trip_then(levels, total, trip_often(levels, trip, times))
    return total


def flat_pictures(levels, trips, way):
    """Return the pictures of the trips, each with the way so often ahead that its end is gone."""
    return [trip_then(levels, trip_often(levels, way, -(trip[1] // way[1])), trip)[0] for trip in trips]


def form_of_trips(levels, trips):
    """Return the form of what these trips, or none, make."""
    divisor, counts = way_counts(trips)
    if divisor == 0:
        flats = [changed(levels, picture, 1, MOST_NEAR_PLACE) for picture, _ in trips]
        heads = heads_of(levels, flats, STEP_WITHOUT_ENDS)
        return 0, tuple([lamps_of(changed(levels, head, 1, -MOST_NEAR_PLACE)) for head in heads]), ()
    way = trips_done(levels, trips, counts)
    heads = heads_of(levels, flat_pictures(levels, trips, way), divisor)
    trip = taken_by_heads(levels, way[0], divisor, heads)
    return divisor, tuple([lamps_of(head) for head in heads]), lamps_of(trip)


def left_without_ends(levels, picture, heads):
    """Return what is left of a picture when the pictures of a form without ends are taken away, so far as they can."""
    left = picture
    for head in heads:
        left = with_more(levels, left, head, -left.get(min(head), 0), 0)
    return left


def is_trip_in(levels, form, trip):
    """Return whether a trip is made by a lot with this form."""
    divisor, pictures, way = form
    picture, end = trip
    if left_by(end, divisor) != 0:
        return False
    heads = [picture_of(lamps) for lamps in pictures]
    if divisor == 0:
        return not left_without_ends(levels, picture, heads)
    gone = trip_often(levels, (picture_of(way), divisor), end // divisor)[0]
    return not taken_by_heads(levels, with_more(levels, picture, gone, -1, 0), divisor, heads)


def is_round_made(rounds, one):
    """Return whether these rounds, or none, make a round."""
    return is_trip_in(one.levels, form_of_trips(one.levels, [trip_of(each) for each in rounds]), trip_of(one))


def round_form(lot):
    """Return the form: the divisor of the ends, the pictures, and the trip."""
    check_round_lot(lot)
    return lot.form


def round_cosets(lot):
    """Return the number of cosets; None for endlessly many."""
    check_round_lot(lot)
    divisor, pictures, _ = lot.form
    if divisor == 0 or len(pictures) < divisor:
        return None
    many = divisor
    for lamps in pictures:
        head = picture_of(lamps)
        for _ in range(part_size(head, divisor, head_rest(head, divisor)) // divisor):
            many = many * lot.levels
    return many


def round_makes(lot, change):
    """Return whether a near round is made."""
    check_near_round(lot, change)
    return is_trip_in(lot.levels, lot.form, trip_of(change))


def round_plan(lot, change):
    """Return a plan that does a near round; None if it is not made."""
    check_near_round(lot, change)
    divisor, counts = way_counts(lot.trips)
    told = list(range(len(lot)))
    picture = picture_of(change.lamps)
    if divisor == 0:
        flats = [changed(lot.levels, flat, 1, MOST_NEAR_PLACE) for flat, _ in lot.trips]
        goal = changed(lot.levels, picture, 1, MOST_NEAR_PLACE)
        shares = shares_of(lot.levels, flats, STEP_WITHOUT_ENDS, goal) if change.end == 0 else None
        return None if shares is None else tuple([(at, times) for _, at, times in shares])
    if change.end % divisor != 0:
        return None
    way = trips_done(lot.levels, lot.trips, counts)
    ways = change.end // divisor
    goal = with_more(lot.levels, picture, trip_often(lot.levels, way, ways)[0], -1, 0)
    shares = shares_of(lot.levels, flat_pictures(lot.levels, lot.trips, way), divisor, goal)
    if shares is None:
        return None
    way_plan = plan_of_parts(told, counts)
    parts = [((way_plan, -(trip[1] // divisor)), (at, 1)) if trip[1] else at for at, trip in enumerate(lot.trips)]
    return swept_plan(way_plan, parts, shares, ways)


def swept_plan(way_plan, parts, shares, ways):
    """Return the plan that goes the way to where each share is, does it there, and in the end goes so many ways.

    On the way there are then only lamps of shares and of ways between the outermost shares, 0 and the end. That
    is never more than some 330 places, so that no more than 400 lamps can be lit: a share is a quotient of two
    square parts of flat ones and the goal, of at most four of them, each with its lamps within 57 places if
    there are so many.
    """
    plan = ()
    at = 0
    for steps, index, times in shares:
        plan = plan + plan_of_parts([way_plan, parts[index]], [steps - at, times])
        at = steps
    return plan + plan_of_parts([way_plan], [ways - at])


def round_doing(lot, plan):
    """Return the round that a plan does."""
    check_round_lot(lot)
    check_plan(plan, len(lot))
    return plan_done(plan, lot.changes, Round(lot.levels, (), 0), round_then, round_often)


def same_rounds(lot, other_lot):
    """Return whether both lots make the same rounds."""
    check_round_lots(lot, other_lot)
    return lot.form == other_lot.form


def rounds_within(lot, other_lot):
    """Return whether the second lot makes all that the first one makes."""
    check_round_lots(lot, other_lot)
    return all([is_trip_in(lot.levels, other_lot.form, trip) for trip in lot.trips])


def needless_rounds(lot):
    """Return the indexes of the told rounds without which, each by itself, the same lot is made."""
    check_round_lot(lot)
    return needless_of(lot.changes, is_round_made)
