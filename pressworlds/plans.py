"""Plans: tuples of pairs of a part, an index or again a plan, and so many times."""

from pressworlds.checks import is_integer
from pressworlds.errors import InvalidPlan
from pressworlds.limits import MOST_DEPTH


def is_pair(pair, many, deep):
    """Return whether a value is a pair of a plan over so many told changes, with so many plans within one another."""
    if not isinstance(pair, tuple) or len(pair) != 2:
        return False
    part, times = pair
    if not is_integer(times) or times == 0:
        return False
    if is_integer(part):
        return 0 <= part < many
    return is_plan(part, many, deep)


def is_plan(plan, many, deep):
    """Return whether a value is a plan over so many told changes, with at most so many plans within one another."""
    if deep == 0 or not isinstance(plan, tuple):
        return False
    return all([is_pair(pair, many, deep - 1) for pair in plan])


def check_plan(plan, many):
    """Raise InvalidPlan for what is no plan of a lot with so many told changes."""
    if not is_plan(plan, many, MOST_DEPTH):
        raise InvalidPlan(plan)


def plan_done(plan, told, still, then, often):
    """Return what a plan does; `then` and `often` raise TooGreat in the order in which they are called."""
    total = still
    for part, times in plan:
        step = plan_done(part, told, still, then, often) if isinstance(part, tuple) else told[part]
        total = then(total, often(step, times))
    return total


def plan_of_parts(parts, counts):
    """Return the plan of these parts, each so many times; those that are taken no times are left out."""
    return tuple([(part, times) for part, times in zip(parts, counts) if times != 0])


def presses_joined(first, second):
    """Return the one list of pairs (index, times) and the other one behind it, equal neighbours made one."""
    joined = list(first)
    for index, times in second:
        if joined and joined[-1][0] == index:
            times = joined.pop()[1] + times
        if times != 0:
            joined.append((index, times))
    return joined
