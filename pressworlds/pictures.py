"""Pictures of lamps as dicts from places to levels above 0, and what rounds do as pairs of a picture and an end.

Nothing is too great here. Runs (FIRST, MANY, LEVEL) stand for so many lamps with one level, the first
one at that place and each next one a step further; so pictures can be counted that could not be written.
"""


def picture_of(lamps):
    """Return the picture with these lamps, pairs of a place and a level."""
    return {place: level for place, level in lamps}


def lamps_of(picture):
    """Return the lamps, pairs of a place and a level, the places ascending."""
    return tuple(sorted(picture.items()))


def add_lamps(levels, picture, other, times, by):
    """Add to a picture that the caller made another one, so many times and moved by a number."""
    for place, level in other.items():
        after = (picture.get(place + by, 0) + times * level) % levels
        if after:
            picture[place + by] = after
        else:
            picture.pop(place + by, None)


def with_more(levels, picture, other, times, by):
    """Return the sum of a picture and another one, so many times and moved by a number."""
    total = dict(picture)
    add_lamps(levels, total, other, times, by)
    return total


def changed(levels, picture, times, by):
    """Return a picture, so many times and moved by a number."""
    return with_more(levels, {}, picture, times, by)


def inverse_level(levels, level):
    """Return the level that, times this one above 0, is 1."""
    return [other for other in range(1, levels) if level * other % levels == 1][0]


def places_by_rest(picture, step):
    """Return a dict from what places leave when divided by a step to the ascending list of these places."""
    found = {}
    for place in sorted(picture):
        found.setdefault(place % step, []).append(place)
    return found


def runs_between(levels, picture, step):
    """Return the runs of the picture that, moved by a step above 0 and less itself, is this one; None if none is.

    Going along by the step, its level changes only at the lamps of this one, and has to be 0 in the end.
    """
    runs = []
    for places in places_by_rest(picture, step).values():
        level = 0
        for at, place in enumerate(places):
            level = (level - picture[place]) % levels
            if level and at + 1 == len(places):
                return None
            if level:
                runs.append((place, (places[at + 1] - place) // step, level))
    return runs


def runs_of_quotient(levels, picture, step):
    """Return the runs of the picture that, moved by a step other than 0 and less itself, is this one; None if none is.

    Of a step below 0 nothing but where the two pictures stand, and which is taken from which, is the other way round.
    """
    if step > 0:
        return runs_between(levels, picture, step)
    return runs_between(levels, changed(levels, picture, -1, -step), -step)


def many_in(runs):
    """Return how many lamps runs have."""
    return sum([many for _, many, _ in runs])


def spread(runs, step):
    """Return the picture with these runs."""
    return {first + at * step: level for first, many, level in runs for at in range(many)}


def runs_often(levels, picture, end, times):
    """Return the runs of what a round with this picture and an end other than 0 switches when done so often.

    Each time the picture is one end further; so the whole, moved by an end and less itself, is only the
    picture moved past the last time, less the picture.
    """
    edges = with_more(levels, changed(levels, picture, -1, 0), picture, 1, end * times)
    return runs_of_quotient(levels, edges, end)


def trip_then(levels, one, other):
    """Return the one pair of a picture and an end, then the other one."""
    return with_more(levels, one[0], other[0], 1, one[1]), one[1] + other[1]


def trip_often(levels, trip, times):
    """Return a pair of a picture and an end, so many times."""
    picture, end = trip
    if end == 0:
        return changed(levels, picture, times, 0), 0
    return spread(runs_often(levels, picture, end, times), abs(end)), end * times
