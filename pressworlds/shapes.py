"""Shapes: values that have all that the form of a lot is told to be, but need not be the form of this lot.

What such a value makes holds for two changes, one then the other one, and for each one undone. So where it
makes all told changes of a lot it makes all that the lot makes, and what it misses the lot misses.
"""

from pressworlds.checks import is_integer
from pressworlds.grids import pivot_place, taken_by_lines
from pressworlds.limits import MOST_ZOOM
from pressworlds.movelots import is_move_in
from pressworlds.ratios import ZERO, fits, is_ratio, stripped
from pressworlds.roundlots import is_trip_in
from pressworlds.rounds import is_lamp, trip_of
from pressworlds.slidelots import is_slide_in
from pressworlds.viewlots import is_pair_in
from pressworlds.views import pair_of
from pressworlds.webs import clash_of, lets, steps_of
from pressworlds.words import ways_of
from pressworlds.worlds import lot_kind


def is_shape(lot, value):
    """Return whether a value has all that forms of the world of a lot are told to be."""
    kind = lot_kind(lot)
    if kind == "rows":
        return is_web(value, lot.letters)
    if kind == "grid":
        return is_lines(value, lot.width)
    if kind == "ruler":
        return is_slide_shape(value)
    if kind == "screen":
        return is_view_shape(value, lot.factor)
    if kind == "lamps":
        return is_round_shape(value, lot.levels)
    return is_move_shape(value)


def is_in_shape(lot, shape, change):
    """Return whether a shape makes a change of the world of a lot."""
    kind = lot_kind(lot)
    if kind == "rows":
        return lets(steps_of(shape), change.word)
    if kind == "grid":
        return pivot_place(taken_by_lines(shape, change.numbers)[0]) is None
    if kind == "ruler":
        return is_slide_in(shape, change)
    if kind == "screen":
        return is_pair_in(lot.factor, shape, pair_of(change))
    if kind == "lamps":
        return is_trip_in(lot.levels, shape, trip_of(change))
    return is_move_in(shape, change)


def is_tuple_of(value, many):
    """Return whether a value is a tuple of so many elements."""
    return isinstance(value, tuple) and len(value) == many


def is_count(value):
    """Return whether a value is an integer from 0 on."""
    return is_integer(value) and value >= 0


def is_ascending(values):
    """Return whether each of a list of values is greater than the one before it."""
    return all([values[at] < values[at + 1] for at in range(len(values) - 1)])


def is_below(number, step):
    """Return whether an integer is from 0 to one less than a step; any is for the step 0."""
    return step == 0 or 0 <= number < step


def is_tie(value, letters):
    """Return whether a value is a tie by one of the first so many small letters."""
    if not is_tuple_of(value, 3) or not is_count(value[0]) or not is_count(value[2]):
        return False
    return isinstance(value[1], str) and len(value[1]) == 1 and value[1].islower() and value[1] in ways_of(letters)


def is_web(value, letters):
    """Return whether a value is an ascending tuple of ties that are folded, their places numbered anyhow."""
    if not isinstance(value, tuple) or not all([is_tie(tie, letters) for tie in value]):
        return False
    return is_ascending(value) and clash_of(value) is None


def is_line(value, width):
    """Return whether a value is a line of so many integers, the first one that is not 0 above it."""
    if not is_tuple_of(value, width) or not all([is_integer(number) for number in value]):
        return False
    place = pivot_place(value)
    return place is not None and value[place] > 0


def is_lines(value, width):
    """Return whether a value is a form of points: pivots further to the right, and little above them."""
    if not isinstance(value, tuple) or not all([is_line(line, width) for line in value]):
        return False
    places = [pivot_place(line) for line in value]
    above = [is_below(upper[places[at]], line[places[at]]) for at, line in enumerate(value) for upper in value[:at]]
    return is_ascending(places) and all(above)


def is_slide_shape(value):
    """Return whether a value is a form of slides: a step, and perhaps a turn below it."""
    if not is_tuple_of(value, 2) or not is_count(value[0]) or not isinstance(value[1], tuple):
        return False
    step, turn = value
    return len(turn) == 0 or len(turn) == 1 and is_integer(turn[0]) and is_below(turn[0], step)


def is_view_shape(value, factor):
    """Return whether a value is a form of views of a factor: step, gauge and head.

    A step is the zoom of a view, if it is not 0; so it is not beyond what zooms there are.
    """
    if not is_tuple_of(value, 3) or not is_count(value[0]) or value[0] > MOST_ZOOM:
        return False
    step, gauge, head = value
    if not is_ratio(gauge) or gauge[0] < 0 or not fits(gauge, factor):
        return False
    if step == 0:
        return is_tuple_of(head, 0)
    if not is_tuple_of(head, 1) or not is_ratio(head[0]) or not fits(head[0], factor):
        return False
    if gauge == ZERO:
        return True
    whole = gauge[1] == 1 and head[0][1] == 1
    return whole and stripped(gauge[0], factor) == gauge[0] and is_below(head[0][0], gauge[0])


def is_picture(value, levels):
    """Return whether a value is a picture."""
    if not isinstance(value, tuple) or not all([is_lamp(lamp, levels) for lamp in value]):
        return False
    return is_ascending([place for place, _ in value])


def is_round_shape(value, levels):
    """Return whether a value is a form of rounds: a divisor, pictures and a trip."""
    if not is_tuple_of(value, 3) or not is_count(value[0]) or not isinstance(value[1], tuple):
        return False
    divisor, pictures, trip = value
    # A picture without lamps has neither a first lamp nor a head part.
    if not all([is_picture(lamps, levels) and len(lamps) > 0 for lamps in pictures]):
        return False
    if divisor == 0:
        return is_tuple_of(trip, 0) and is_apart(pictures)
    return is_picture(trip, levels) and is_headed(divisor, pictures, trip)


def is_apart(pictures):
    """Return whether each picture has the level 1 at its first lamp, where all others are dark, these ascending."""
    firsts = [lamps[0][0] for lamps in pictures]
    lit = [place for lamps in pictures for place, _ in lamps if place in firsts]
    return is_ascending(firsts) and len(lit) == len(firsts) and all([lamps[0][1] == 1 for lamps in pictures])


def is_headed(divisor, pictures, trip):
    """Return whether head parts are as they are told to be, and the other r-parts lie where they let them be."""
    rests = [min([place % divisor for place, _ in lamps]) for lamps in pictures]
    if not is_ascending(rests):
        return False
    for at, lamps in enumerate(pictures):
        head = [lamp for lamp in lamps if lamp[0] % divisor == rests[at]]
        last, level = head[-1]
        if head[0][0] != rests[at] or level != 1:
            return False
        for others in pictures[:at] + pictures[at + 1:] + (trip,):
            places = [place for place, _ in others if place % divisor == rests[at]]
            if not all([rests[at] <= place < last for place in places]):
                return False
    return True


def is_triple(value):
    """Return whether a value is a tuple of three integers."""
    return is_tuple_of(value, 3) and all([is_integer(number) for number in value])


def is_move_shape(value):
    """Return whether a value is a form of moves: east, north and z."""
    if not is_tuple_of(value, 3) or not is_count(value[2]):
        return False
    east, north, z = value
    if not is_tuple_of(north, 0) and not is_north(north, z):
        return False
    if is_tuple_of(east, 0):
        return True
    if not is_triple(east) or east[0] <= 0 or not is_below(east[2], z):
        return False
    return not north or z > 0 and east[0] * north[1] % z == 0 and is_below(east[1], north[1])


def is_north(value, z):
    """Return whether a value is the north of a form of moves."""
    return is_triple(value) and value[0] == 0 and value[1] > 0 and is_below(value[2], z)
