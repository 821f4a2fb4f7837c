"""Changes and lots of any world: what their own modules tell, found by their classes.

A kind is the first word of the texts of a world.
"""

from pressworlds.errors import InvalidChanges, InvalidText, NotAChange, NotALot, OtherWorld
from pressworlds.movelots import MoveLot, move_cosets, move_doing, move_form, move_makes, move_plan
from pressworlds.moves import Move, move_often, move_then, move_undone
from pressworlds.pointlots import PointLot, point_cosets, point_doing, point_form, point_makes, point_plan
from pressworlds.points import Point, point_often, point_then, point_undone
from pressworlds.roundlots import RoundLot, round_cosets, round_doing, round_form, round_makes, round_plan
from pressworlds.rounds import Round, round_often, round_then, round_undone
from pressworlds.rowlots import RowLot, row_cosets, row_doing, row_form, row_makes, row_plan
from pressworlds.rows import Row, row_often, row_then, row_undone
from pressworlds.slidelots import SlideLot, slide_cosets, slide_doing, slide_form, slide_makes, slide_plan
from pressworlds.slides import Slide, slide_often, slide_then, slide_undone
from pressworlds.viewlots import ViewLot, view_cosets, view_doing, view_form, view_makes, view_plan
from pressworlds.views import View, view_often, view_then, view_undone


def kind_of(change):
    """Return the kind of a change; None for what is a change of no world."""
    if isinstance(change, Row):
        return "rows"
    if isinstance(change, Point):
        return "grid"
    if isinstance(change, Slide):
        return "ruler"
    if isinstance(change, View):
        return "screen"
    if isinstance(change, Round):
        return "lamps"
    return "areas" if isinstance(change, Move) else None


def is_lot(value):
    """Return whether a value is a lot of some world."""
    if isinstance(value, RowLot) or isinstance(value, PointLot) or isinstance(value, SlideLot):
        return True
    return isinstance(value, ViewLot) or isinstance(value, RoundLot) or isinstance(value, MoveLot)


def check_change(value):
    """Raise NotAChange for what is a change of no world."""
    if kind_of(value) is None:
        raise NotAChange(value)


def check_lot(value):
    """Raise NotALot for what is a lot of no world."""
    if not is_lot(value):
        raise NotALot(value)


def lot_kind(lot):
    """Return the kind of the changes of a lot."""
    return kind_of(lot.changes[0])


def world_of(change):
    """Return the world of a change, by its kind and what tells it apart from others of this kind."""
    check_change(change)
    kind = kind_of(change)
    if kind == "rows":
        return f"rows {change.letters}"
    if kind == "grid":
        return f"grid {len(change)}"
    if kind == "screen":
        return f"screen {change.factor}"
    return f"lamps {change.levels}" if kind == "lamps" else kind


def first_word(text):
    """Return what stands ahead of the first space in a text; "" for what is no string."""
    return text.partition(" ")[0] if isinstance(text, str) else ""


def read_change(text):
    """Return the change with this text."""
    kind = first_word(text)
    if kind == "rows":
        return Row.read(text)
    if kind == "grid":
        return Point.read(text)
    if kind == "ruler":
        return Slide.read(text)
    if kind == "screen":
        return View.read(text)
    if kind == "lamps":
        return Round.read(text)
    if kind == "areas":
        return Move.read(text)
    raise InvalidText(text)


def read_lot(text):
    """Return the lot with this text."""
    kind = first_word(text)
    if kind == "rows":
        return RowLot.read(text)
    if kind == "grid":
        return PointLot.read(text)
    if kind == "ruler":
        return SlideLot.read(text)
    if kind == "screen":
        return ViewLot.read(text)
    if kind == "lamps":
        return RoundLot.read(text)
    if kind == "areas":
        return MoveLot.read(text)
    raise InvalidText(text)


def lot_of(changes):
    """Return the lot of these changes."""
    kind = kind_of(changes[0]) if isinstance(changes, tuple) and changes else None
    if kind == "rows":
        return RowLot(changes)
    if kind == "grid":
        return PointLot(changes)
    if kind == "ruler":
        return SlideLot(changes)
    if kind == "screen":
        return ViewLot(changes)
    if kind == "lamps":
        return RoundLot(changes)
    if kind == "areas":
        return MoveLot(changes)
    raise InvalidChanges(None)


def check_same_world(one, other):
    """Raise what two changes that are to be of one world do not fulfil."""
    check_change(one)
    check_change(other)
    if world_of(one) != world_of(other):
        raise OtherWorld(other)


def check_beside(lot, change):
    """Raise what a lot and a change of its world do not fulfil."""
    check_lot(lot)
    check_change(change)
    if world_of(lot.changes[0]) != world_of(change):
        raise OtherWorld(change)


def then(one, other):
    """Return the one change, then the other one."""
    check_same_world(one, other)
    calls = {"rows": row_then, "grid": point_then, "ruler": slide_then, "screen": view_then, "lamps": round_then,
             "areas": move_then}
    call = calls[kind_of(one)]
    return call(one, other)


def undone(one):
    """Return the change with which this one is still."""
    check_change(one)
    calls = {"rows": row_undone, "grid": point_undone, "ruler": slide_undone, "screen": view_undone,
             "lamps": round_undone, "areas": move_undone}
    call = calls[kind_of(one)]
    return call(one)


def often(one, times):
    """Return the change so many times, undone for times below 0."""
    check_change(one)
    calls = {"rows": row_often, "grid": point_often, "ruler": slide_often, "screen": view_often,
             "lamps": round_often, "areas": move_often}
    call = calls[kind_of(one)]
    return call(one, times)


def is_still(one):
    """Return whether a change is the still one of its world."""
    return often(one, 0) == one


def form(lot):
    """Return the form of a lot."""
    check_lot(lot)
    calls = {"rows": row_form, "grid": point_form, "ruler": slide_form, "screen": view_form, "lamps": round_form,
             "areas": move_form}
    call = calls[lot_kind(lot)]
    return call(lot)


def cosets(lot):
    """Return the number of cosets of a lot; None for endlessly many."""
    check_lot(lot)
    calls = {"rows": row_cosets, "grid": point_cosets, "ruler": slide_cosets, "screen": view_cosets,
             "lamps": round_cosets, "areas": move_cosets}
    call = calls[lot_kind(lot)]
    return call(lot)


def makes(lot, change):
    """Return whether a change is made."""
    check_beside(lot, change)
    calls = {"rows": row_makes, "grid": point_makes, "ruler": slide_makes, "screen": view_makes,
             "lamps": round_makes, "areas": move_makes}
    call = calls[lot_kind(lot)]
    return call(lot, change)


def plan_of(lot, change):
    """Return a plan that does a change; None if it is not made."""
    check_beside(lot, change)
    calls = {"rows": row_plan, "grid": point_plan, "ruler": slide_plan, "screen": view_plan, "lamps": round_plan,
             "areas": move_plan}
    call = calls[lot_kind(lot)]
    return call(lot, change)


def doing(lot, plan):
    """Return the change that a plan does."""
    check_lot(lot)
    calls = {"rows": row_doing, "grid": point_doing, "ruler": slide_doing, "screen": view_doing,
             "lamps": round_doing, "areas": move_doing}
    call = calls[lot_kind(lot)]
    return call(lot, plan)
