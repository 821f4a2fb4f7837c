"""Wishes for lots, and whether they hold."""

from pressworlds.checks import is_integer
from pressworlds.errors import InvalidWish
from pressworlds.readings import change_in, is_near, lot_in, world_in
from pressworlds.worlds import check_lot, cosets, makes, world_of

TEXT_WISHES = ("makes", "misses", "within")


def is_wish(value):
    """Return whether a value is a wish."""
    if not isinstance(value, tuple) or len(value) != 2 or not isinstance(value[0], str):
        return False
    if value[0] == "cosets":
        return is_integer(value[1])
    return value[0] in TEXT_WISHES and isinstance(value[1], str)


def check_wish(value):
    """Raise InvalidWish for what is no wish."""
    if not is_wish(value):
        raise InvalidWish(value)


def holds(lot, wish):
    """Return whether a wish holds for a lot."""
    check_lot(lot)
    check_wish(wish)
    word, goal = wish
    if word == "cosets":
        many = cosets(lot)
        return many is not None and many <= goal
    if word == "within":
        return is_lot_within(lot, goal)
    change = change_in(goal)
    if change is None or world_of(change) != world_in(lot) or not is_near(change):
        return False
    return makes(lot, change) == (word == "makes")


def is_lot_within(lot, text):
    """Return whether this is the text of a lot of the same world that makes all that the first one makes."""
    other = lot_in(text)
    if other is None or world_in(other) != world_in(lot):
        return False
    return all([makes(other, told) for told in lot.changes])
