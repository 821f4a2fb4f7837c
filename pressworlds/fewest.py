"""How many presses changes need, going through all rows of presses in their order."""

from pressworlds.checks import is_integer
from pressworlds.errors import InvalidNumber, TooMany
from pressworlds.limits import MOST_FOUND, MOST_PRESSES
from pressworlds.worlds import check_beside, check_change, check_lot, often, then, undone


def check_most(value):
    """Raise InvalidNumber for what is no integer from 0 to 6."""
    if not is_integer(value) or value < 0 or value > MOST_PRESSES:
        raise InvalidNumber(value)


def check_search(lot, change, most):
    """Raise what a lot, a change of its world and a number of presses do not fulfil."""
    check_lot(lot)
    check_change(change)
    check_most(most)
    check_beside(lot, change)


def pressed_changes(lot):
    """Return a dict from the presses of a lot, in their order, to what they do."""
    return {(index, sign): change if sign > 0 else undone(change)
            for index, change in enumerate(lot.changes) for sign in (1, -1)}


def first_rows(lot, most):
    """Return a dict from the texts of all changes that need at most so many presses to their first rows of presses.

    Rows of one length come in their order, so that the first one to do a change is the one that is asked for.
    """
    steps = pressed_changes(lot)
    still = often(lot.changes[0], 0)
    rows = {str(still): ()}
    last = [still]
    for _ in range(most):
        after = []
        for change in last:
            row = rows[str(change)]
            for press, step in steps.items():
                goal = then(change, step)
                if str(goal) not in rows:
                    rows[str(goal)] = row + (press,)
                    after.append(goal)
                    if len(rows) > MOST_FOUND:
                        raise TooMany(MOST_FOUND + 1)
        last = after
    return rows


def presses(lot, change, most):
    """Return how many presses a change needs; None if more than so many."""
    row = first_presses(lot, change, most)
    return None if row is None else len(row)


def first_presses(lot, change, most):
    """Return the first one of the shortest rows of presses that do a change; None if they are longer than so many."""
    check_search(lot, change, most)
    return first_rows(lot, most).get(str(change))


def spheres(lot, most):
    """Return the tuple of how many changes need 0, 1 and so on, up to so many presses."""
    check_lot(lot)
    check_most(most)
    sizes = [0] * (most + 1)
    for row in first_rows(lot, most).values():
        sizes[len(row)] += 1
    return tuple(sizes)
