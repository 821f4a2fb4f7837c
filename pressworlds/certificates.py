"""Certificates: claims with papers that show them, for the checker."""

from pressworlds.errors import OtherWorld
from pressworlds.leads import lost_row
from pressworlds.moves import move_alike, move_root
from pressworlds.points import point_alike, point_root
from pressworlds.readings import world_in
from pressworlds.rounds import round_alike, round_root
from pressworlds.rows import row_alike, row_root
from pressworlds.slides import slide_alike, slide_root
from pressworlds.views import view_alike, view_root
from pressworlds.worlds import check_change, check_lot, check_same_world, form, kind_of, plan_of


def certify_made(lot, change):
    """Return the claim that a lot makes, or misses, a change, with a plan, or its form, as paper."""
    plan = plan_of(lot, change)
    if plan is None:
        return ("misses", lot.text, str(change)), form(lot)
    return ("makes", lot.text, str(change)), plan


def certify_same(lot, other_lot):
    """Return the claim that two lots make the same, with the plans of the told ones as paper; None if they do not."""
    check_lot(lot)
    check_lot(other_lot)
    if world_in(lot) != world_in(other_lot):
        raise OtherWorld(other_lot)
    if form(lot) != form(other_lot):
        return None
    plans = tuple([plan_of(lot, told) for told in other_lot.changes])
    other_plans = tuple([plan_of(other_lot, told) for told in lot.changes])
    return ("same", lot.text, other_lot.text), (plans, other_plans)


def certify_alike(one, other):
    """Return the claim that changes are alike, with the text of what is put ahead as paper; None if they are not."""
    check_same_world(one, other)
    calls = {"rows": row_alike, "grid": point_alike, "ruler": slide_alike, "screen": view_alike, "lamps": round_alike,
             "areas": move_alike}
    call = calls[kind_of(one)]
    ahead = call(one, other)
    return None if ahead is None else (("alike", str(one), str(other)), str(ahead))


def certify_root(one, degree):
    """Return the claim that a change has a root of this degree, with its text as paper; None if there is none."""
    check_change(one)
    calls = {"rows": row_root, "grid": point_root, "ruler": slide_root, "screen": view_root, "lamps": round_root,
             "areas": move_root}
    call = calls[kind_of(one)]
    root = call(one, degree)
    return None if root is None else (("root", str(one), degree), str(root))


def certify_lost(lead):
    """Return the claim that a row is lost by a lead, with its text as paper; None if the lead keeps apart."""
    row = lost_row(lead)
    return None if row is None else (("lost", lead.text), str(row))
