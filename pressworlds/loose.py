"""What changes of any world do, such that it can be reckoned with however great it gets.

What a row does is its word, what a view does a pair (zoom, shift), what a round does a pair of a picture
and an end. Nothing is too great for changes of the other worlds, which are taken as they are.
"""

from pressworlds.pictures import trip_then
from pressworlds.rounds import trip_of
from pressworlds.views import pair_of, pair_then
from pressworlds.words import word_then
from pressworlds.worlds import kind_of, then


def loose_of(change):
    """Return what a change does."""
    kind = kind_of(change)
    if kind == "rows":
        return change.word
    if kind == "screen":
        return pair_of(change)
    return trip_of(change) if kind == "lamps" else change


def loose_then(world, one, other):
    """Return what the one does, then the other one; the world is told by any change of it."""
    kind = kind_of(world)
    if kind == "rows":
        return word_then(one, other)
    if kind == "screen":
        return pair_then(world.factor, one, other)
    return trip_then(world.levels, one, other) if kind == "lamps" else then(one, other)
