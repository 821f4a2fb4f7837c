"""What lots of all worlds, and leads, have in common: the tuple of changes, and what is needless in it."""

from pressworlds.errors import InvalidChanges
from pressworlds.limits import MOST_TOLD


def told_changes(changes, fits):
    """Return the changes if they make a lot, else raise InvalidChanges.

    `fits` tells of a change and the first one whether it may be told beside it.
    """
    return fitting_changes(changes, fits, MOST_TOLD)


def fitting_changes(changes, fits, most):
    """Return the changes if there are from one to so many and all fit, else raise InvalidChanges."""
    if not isinstance(changes, tuple) or not changes:
        raise InvalidChanges(None)
    for at, change in enumerate(changes):
        if at == most or not fits(change, changes[0]):
            raise InvalidChanges(at)
    return changes


def needless_of(told, is_made):
    """Return the indexes of told ones that the others make; `is_made` tells it of a list of others and one."""
    return tuple([at for at in range(len(told)) if is_made(list(told[:at] + told[at + 1:]), told[at])])
