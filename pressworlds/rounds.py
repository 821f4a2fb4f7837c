"""Rounds along an endless street, which take lamps on by their levels."""

from pressworlds.checks import check_degree, check_number, is_integer
from pressworlds.errors import InvalidLamps, InvalidLevels, InvalidNumber, InvalidText, InvalidWalk
from pressworlds.errors import NotAChange, OtherWorld, TooFar, TooGreat, TooMany
from pressworlds.limits import MOST_LAMPS
from pressworlds.pictures import changed, inverse_level, lamps_of, many_in, picture_of, runs_of_quotient, runs_often
from pressworlds.pictures import spread, trip_often, trip_then, with_more
from pressworlds.texts import number_in, number_text

ALL_LEVELS = (2, 3, 5, 7)
MOST_NEAR_PLACE = 40
MOST_STEPS = 4000
STEPS = "<>+"


def check_levels(value):
    """Raise InvalidLevels for what is no number of levels."""
    if not is_integer(value) or value not in ALL_LEVELS:
        raise InvalidLevels(value)


def is_lamp(lamp, levels):
    """Return whether a value is a pair of a place and a level above 0."""
    if not isinstance(lamp, tuple) or len(lamp) != 2:
        return False
    place, level = lamp
    return is_integer(place) and is_integer(level) and 1 <= level < levels


def check_lamps(lamps, levels):
    """Raise InvalidLamps for what is no picture of at most 400 lamps."""
    if not isinstance(lamps, tuple):
        raise InvalidLamps(None)
    for at, lamp in enumerate(lamps):
        if at == MOST_LAMPS or not is_lamp(lamp, levels) or at > 0 and lamp[0] <= lamps[at - 1][0]:
            raise InvalidLamps(at)


class Round:
    """A round: it takes on the lamps of its picture, moved to where it begins, and goes on by its end."""

    def __init__(self, levels, lamps, end):
        check_levels(levels)
        check_lamps(lamps, levels)
        check_number(end)
        self._levels = levels
        self._lamps = lamps
        self._end = end

    @classmethod
    def read(cls, text):
        """Return the round with this text."""
        parts = text.split(" ") if isinstance(text, str) else []
        if len(parts) > 4:
            try:
                made = cls(number_in(parts[1]), tuple([lamp_in(part) for part in parts[5:]]), number_in(parts[3]))
                if str(made) == text:
                    return made
            except (InvalidLevels, InvalidLamps, InvalidNumber):
                raise InvalidText(text) from None
        raise InvalidText(text)

    @property
    def levels(self):
        """The number of levels of its lamps."""
        return self._levels

    @property
    def lamps(self):
        """The tuple of pairs of a place and a level, the places ascending."""
        return self._lamps

    @property
    def end(self):
        """How far on it ends."""
        return self._end

    def __str__(self):
        return f"lamps {self._levels} end {number_text(self._end)} {lamps_text(self._lamps)}"

    def __eq__(self, other):
        return isinstance(other, Round) and trip_of(self) == trip_of(other) and self._levels == other._levels


def lamps_text(lamps):
    """Return the text of a picture."""
    lit = [f" {number_text(place)}:{level}" for place, level in lamps]
    return "at" + "".join(lit) if lit else "dark"


def lamp_in(text):
    """Return the pair of integers with this text, None in the place of what is none."""
    place, _, level = text.partition(":")
    return number_in(place), number_in(level)


def trip_of(one):
    """Return what a round does as a pair of a picture and an end."""
    return picture_of(one.lamps), one.end


def round_of(levels, trip):
    """Return the round that does what a pair of a picture and an end does; TooGreat if it has too many lamps."""
    picture, end = trip
    if len(picture) > MOST_LAMPS:
        raise TooGreat(len(picture))
    return Round(levels, lamps_of(picture), end)


def picture_of_runs(runs, step):
    """Return the picture with these runs; TooGreat, before it is written, if no round has so many lamps."""
    if many_in(runs) > MOST_LAMPS:
        raise TooGreat(many_in(runs))
    return spread(runs, step)


def check_round(value):
    """Raise NotAChange for what is no round."""
    if not isinstance(value, Round):
        raise NotAChange(value)


def check_rounds(one, other):
    """Raise what two rounds that are to be of one world do not fulfil."""
    check_round(one)
    check_round(other)
    if one.levels != other.levels:
        raise OtherWorld(other)


def is_near_round(one):
    """Return whether places and end of a round are from -40 to 40."""
    return all([abs(number) <= MOST_NEAR_PLACE for number in [one.end] + [place for place, _ in one.lamps]])


def round_then(one, other):
    """Return the one round, then the other one."""
    check_rounds(one, other)
    return round_of(one.levels, trip_then(one.levels, trip_of(one), trip_of(other)))


def round_undone(one):
    """Return the round with which this one is still."""
    check_round(one)
    return round_of(one.levels, trip_often(one.levels, trip_of(one), -1))


def round_often(one, times):
    """Return the round so many times, undone for times below 0."""
    check_round(one)
    check_number(times)
    picture, end = trip_of(one)
    if end == 0:
        return round_of(one.levels, (changed(one.levels, picture, times, 0), 0))
    runs = runs_often(one.levels, picture, end, times)
    return Round(one.levels, lamps_of(picture_of_runs(runs, abs(end))), end * times)


def round_order(one):
    """Return the least number from 1 on of times that are still; None if there is none."""
    check_round(one)
    if one.end != 0:
        return None
    return one.levels if one.lamps else 1


def round_gap(one, other):
    """Return one, other, one undone, other undone."""
    check_rounds(one, other)
    levels = one.levels
    ahead = trip_then(levels, trip_of(one), trip_of(other))
    back = trip_then(levels, trip_often(levels, trip_of(one), -1), trip_often(levels, trip_of(other), -1))
    return round_of(levels, trip_then(levels, ahead, back))


def do_rounds_commute(one, other):
    """Return whether it is the same which of both is first."""
    check_rounds(one, other)
    ahead = trip_then(one.levels, trip_of(one), trip_of(other))
    return ahead == trip_then(one.levels, trip_of(other), trip_of(one))


def is_round_alike(one, other):
    """Return whether some round ahead, and its undone one behind, makes the first round the other one."""
    check_rounds(one, other)
    return end_between(one, other) is not None


def round_alike(one, other):
    """Return a round c such that c, then the first one, then c undone, is the other one; None if there is none.

    Besides moving the first one by its end, c leaves its own lamps, less the same moved by the end of the first one.
    """
    check_rounds(one, other)
    for each in (one, other):
        if not is_near_round(each):
            raise TooFar(each)
    by = end_between(one, other)
    if by is None or one.end == 0:
        return None if by is None else Round(one.levels, (), by)
    picture = with_more(one.levels, changed(one.levels, picture_of(one.lamps), 1, by), picture_of(other.lamps), -1, 0)
    runs = runs_of_quotient(one.levels, picture, one.end)
    return Round(one.levels, lamps_of(picture_of_runs(runs, abs(one.end))), by)


def folded(levels, picture, end):
    """Return the picture with the places modulo an end other than 0 and their levels added up."""
    total = {}
    for place, level in picture.items():
        total[place % abs(end)] = (total.get(place % abs(end), 0) + level) % levels
    return {place: total[place] for place in total if total[place]}


def end_between(one, other):
    """Return the end of some round c as in `round_alike`; None if there is none.

    By its own lamps c can take any level from one lamp to another one that is some ends away, and do nothing
    else; by its end it moves the picture. So it is asked which move makes the pictures the same: as they are
    for the end 0, otherwise on a ring of as many places as the end has steps.
    """
    if one.end != other.end:
        return None
    picture, goal = picture_of(one.lamps), picture_of(other.lamps)
    if one.end != 0:
        picture, goal = folded(one.levels, picture, one.end), folded(one.levels, goal, one.end)
    if len(picture) != len(goal) or not picture:
        return 0 if picture == goal else None
    first = min(picture)
    goals = [place for place in sorted(goal) if goal[place] == picture[first]]
    for place in goals:
        by = place - first if one.end == 0 else (place - first) % abs(one.end)
        moved = changed(one.levels, picture, 1, by)
        if goal == (moved if one.end == 0 else folded(one.levels, moved, one.end)):
            return by
    return None


def round_root(one, degree):
    """Return the round that is the first one when done so many times; None if there is none."""
    check_round(one)
    check_degree(degree)
    levels, picture = one.levels, picture_of(one.lamps)
    if one.end == 0:
        if degree % levels == 0:
            return None if picture else one
        return Round(levels, lamps_of(changed(levels, picture, inverse_level(levels, degree % levels), 0)), 0)
    if one.end % degree != 0:
        return None
    # This picture, moved by the root's end and less itself, is the root's one, moved by this end and less itself.
    end = one.end // degree
    edges = with_more(levels, changed(levels, picture, -1, 0), picture, 1, end)
    runs = runs_of_quotient(levels, edges, one.end)
    return None if runs is None else Round(levels, lamps_of(picture_of_runs(runs, abs(one.end))), end)


def round_walked(levels, walk):
    """Return the round of a row of steps."""
    check_levels(levels)
    if not isinstance(walk, str) or len(walk) > MOST_STEPS or not all([sign in STEPS for sign in walk]):
        raise InvalidWalk(walk)
    place = 0
    presses = {}
    for sign in walk:
        if sign == "+":
            presses[place] = presses.get(place, 0) + 1
        else:
            place += 1 if sign == ">" else -1
    return round_of(levels, (changed(levels, presses, 1, 0), place))


def stops_of(one):
    """Return the places between which the shorter of the two ways goes: 0, one outermost place, the other, the end."""
    places = [place for place, _ in one.lamps] or [0]
    ahead = (0, places[0], places[-1], one.end)
    back = (0, places[-1], places[0], one.end)
    return ahead if way_length(ahead) <= way_length(back) else back


def way_length(stops):
    """Return how many places one goes from stop to stop."""
    return sum([abs(goal - place) for place, goal in zip(stops, stops[1:])])


def round_steps(one):
    """Return the least number of steps of the rows with this round."""
    check_round(one)
    return way_length(stops_of(one)) + sum([level for _, level in one.lamps])


def round_walk(one):
    """Return a row of so few steps; TooMany with their number if it is above 4000."""
    many = round_steps(one)
    if many > MOST_STEPS:
        raise TooMany(many)
    _, first, last, end = stops_of(one)
    picture = picture_of(one.lamps)
    walk = steps_between(0, first)
    ahead = 1 if first <= last else -1
    for place in range(first, last, ahead):
        walk = walk + "+" * picture.get(place, 0) + steps_between(place, place + ahead)
    return walk + "+" * picture.get(last, 0) + steps_between(last, end)


def steps_between(place, goal):
    """Return the steps from a place to another one."""
    return ">" * (goal - place) if goal >= place else "<" * (place - goal)
