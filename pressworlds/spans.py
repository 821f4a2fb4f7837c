"""All sums of some pictures, moved by multiples of a step and multiplied by levels.

The r-part of a picture are its lamps whose places leave r when divided by the step; its head part is
the r-part for the least r for which it has lamps. A head is a picture whose head part begins at the
place r, and ends with the level 1. Whatever lamps an r-part has, by taking away a head they can all
be brought to places from r on and before the end of its head part.
"""

from pressworlds.pictures import add_lamps, changed, inverse_level


def part_places(picture, step, rest):
    """Return the ascending list of the places of the r-part, r being the rest."""
    return sorted([place for place in picture if place % step == rest])


def part_size(picture, step, rest):
    """Return how far the last lamp of the r-part is from its first one."""
    places = part_places(picture, step, rest)
    return places[-1] - places[0]


def as_head(levels, picture, step, rest):
    """Return the head that a picture with lamps in this r-part, but not in those ahead, is moved and multiplied."""
    places = part_places(picture, step, rest)
    return changed(levels, picture, inverse_level(levels, picture[places[-1]]), rest - places[0])


def taken_by_head(levels, picture, step, rest, head):
    """Return what is left of a picture when its r-part is brought to where that of a head lets it be."""
    last = part_places(head, step, rest)[-1]
    first_times = inverse_level(levels, head[rest])
    left = dict(picture)
    places = part_places(left, step, rest)
    while places and (places[-1] >= last or places[0] < rest):
        if places[-1] >= last:
            add_lamps(levels, left, head, -left[places[-1]], places[-1] - last)
        else:
            add_lamps(levels, left, head, -left[places[0]] * first_times, places[0] - rest)
        places = part_places(left, step, rest)
    return left


def one_head(levels, busy, step, rest):
    """Return the head that pictures with lamps in this r-part come down to, and what is left of them without it.

    Again and again the smallest r-part is made the head, by which the others are brought to less than that.
    """
    idle = []
    while len(busy) > 1:
        busy = sorted(busy, key=lambda each: part_size(each, step, rest))
        head = as_head(levels, busy[0], step, rest)
        others = [taken_by_head(levels, picture, step, rest, head) for picture in busy[1:]]
        busy = [head] + [picture for picture in others if part_places(picture, step, rest)]
        idle = idle + [picture for picture in others if picture and not part_places(picture, step, rest)]
    return as_head(levels, busy[0], step, rest), idle


def heads_of(levels, pictures, step):
    """Return the heads, by their rests ascending, whose sums are those of these pictures, taken by one another."""
    left = [picture for picture in pictures if picture]
    heads = []
    for rest in range(step):
        busy = [picture for picture in left if part_places(picture, step, rest)]
        left = [picture for picture in left if not part_places(picture, step, rest)]
        if busy:
            head, idle = one_head(levels, busy, step, rest)
            heads = [taken_by_head(levels, upper, step, rest, head) for upper in heads] + [head]
            left = left + idle
    return heads


def head_rest(head, step):
    """Return for which r an r-part is the head part."""
    return min([place % step for place in head])


def taken_by_heads(levels, picture, step, heads):
    """Return what is left of a picture when all heads are taken away as far as they can."""
    left = picture
    for head in heads:
        left = taken_by_head(levels, left, step, head_rest(head, step), head)
    return left


def widened(picture, step, wide):
    """Return a picture with room for more parts: the same ones for a greater step."""
    return {place % step + place // step * wide: level for place, level in picture.items()}


def shares_of(levels, pictures, step, goal):
    """Return how pictures add up to another one; None if they never do.

    That is an ascending list of triples (STEPS, INDEX, TIMES): this picture, moved so many steps, so many times.
    Each picture has besides one lamp in a part of its own, behind all others; what is left there, when the goal
    is taken away by the heads of them all, is the opposite of what was taken.
    """
    wide = step + len(pictures)
    marked = [widened(picture, step, wide) for picture in pictures]
    for at, picture in enumerate(marked):
        picture[step + at] = 1
    left = taken_by_heads(levels, widened(goal, step, wide), wide, heads_of(levels, marked, wide))
    if [place for place in left if place % wide < step]:
        return None
    return sorted([(place // wide, place % wide - step, levels - left[place]) for place in left])
