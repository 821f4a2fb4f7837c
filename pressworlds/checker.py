"""The checker: whether a paper shows what a claim says."""

from pressworlds.checks import is_integer
from pressworlds.errors import InvalidPlan, TooGreat
from pressworlds.leads import is_lost
from pressworlds.loose import loose_of, loose_then
from pressworlds.readings import change_in, is_near, lead_in, lot_in, world_in
from pressworlds.rows import Row
from pressworlds.shapes import is_in_shape, is_shape
from pressworlds.worlds import doing, kind_of, often, world_of

NEAR_KINDS = ("screen", "lamps")


def accepts(claim, paper):
    """Return whether a value is a claim, and another one a paper that shows it; whatever both are."""
    if not isinstance(claim, tuple) or not claim or not isinstance(claim[0], str):
        return False
    if claim[0] == "lost":
        return len(claim) == 2 and is_loss_shown(claim[1], paper)
    if len(claim) != 3:
        return False
    if claim[0] == "makes":
        return is_making_shown(claim[1], claim[2], paper)
    if claim[0] == "misses":
        return is_missing_shown(claim[1], claim[2], paper)
    if claim[0] == "same":
        return is_sameness_shown(claim[1], claim[2], paper)
    if claim[0] == "alike":
        return is_likeness_shown(claim[1], claim[2], paper)
    return claim[0] == "root" and is_root_shown(claim[1], claim[2], paper)


def does(lot, plan, change):
    """Return whether a value is a plan of a lot that does a change, with nothing too great as it is done."""
    try:
        return doing(lot, plan) == change
    except (InvalidPlan, TooGreat):
        return False


def is_making_shown(lot_text, text, paper):
    """Return whether a paper is a plan of the lot that does the change."""
    lot, change = lot_in(lot_text), change_in(text)
    if lot is None or change is None or world_in(lot) != world_of(change):
        return False
    return does(lot, paper, change)


def is_missing_shown(lot_text, text, paper):
    """Return whether a paper has the shape of a form by which the told changes are made, but not the change."""
    lot, change = lot_in(lot_text), change_in(text)
    if lot is None or change is None or world_in(lot) != world_of(change):
        return False
    if kind_of(change) in NEAR_KINDS and not is_near(change) or not is_shape(lot, paper):
        return False
    return all([is_in_shape(lot, paper, told) for told in lot.changes]) and not is_in_shape(lot, paper, change)


def is_sameness_shown(text, other_text, paper):
    """Return whether a paper has the plans of each lot for the told changes of the other one."""
    lot, other = lot_in(text), lot_in(other_text)
    if lot is None or other is None or world_in(lot) != world_in(other):
        return False
    if not isinstance(paper, tuple) or len(paper) != 2:
        return False
    return are_done(lot, paper[0], other.changes) and are_done(other, paper[1], lot.changes)


def are_done(lot, plans, changes):
    """Return whether a value is a tuple of plans of a lot that do these changes, in order."""
    if not isinstance(plans, tuple) or len(plans) != len(changes):
        return False
    return all([does(lot, plan, change) for plan, change in zip(plans, changes)])


def is_likeness_shown(text, other_text, paper):
    """Return whether a paper is the text of a change that, put ahead and undone behind, makes the one the other."""
    one, other, ahead = change_in(text), change_in(other_text), change_in(paper)
    if one is None or other is None or ahead is None:
        return False
    if world_of(one) != world_of(other) or world_of(one) != world_of(ahead):
        return False
    moved = loose_then(one, loose_of(ahead), loose_of(one))
    return moved == loose_then(one, loose_of(other), loose_of(ahead))


def is_root_shown(text, degree, paper):
    """Return whether a paper is the text of a root of this degree."""
    one, root = change_in(text), change_in(paper)
    if one is None or root is None or not is_integer(degree) or degree < 1:
        return False
    try:
        return world_of(one) == world_of(root) and often(root, degree) == one
    except TooGreat:
        return False


def is_loss_shown(text, paper):
    """Return whether a paper is the text of a row that is lost."""
    lead, row = lead_in(text), change_in(paper)
    if lead is None or not isinstance(row, Row) or row.letters != len(lead):
        return False
    return is_lost(lead, row)
