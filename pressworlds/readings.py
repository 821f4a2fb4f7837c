"""Texts of changes, lots and leads of any world that may be none, and changes that may not be near."""

from pressworlds.errors import InvalidText
from pressworlds.leads import Lead
from pressworlds.rounds import is_near_round
from pressworlds.rowlots import MOST_NEAR_ROW
from pressworlds.viewlots import is_near_view
from pressworlds.worlds import kind_of, read_change, read_lot, world_of


def change_in(text):
    """Return the change with this text; None for what is the text of none."""
    try:
        return read_change(text)
    except InvalidText:
        return None


def lot_in(text):
    """Return the lot with this text; None for what is the text of none."""
    try:
        return read_lot(text)
    except InvalidText:
        return None


def lead_in(text):
    """Return the lead with this text; None for what is the text of none."""
    try:
        return Lead.read(text)
    except InvalidText:
        return None


def world_in(lot):
    """Return the world of a lot."""
    return world_of(lot.changes[0])


def is_near(change):
    """Return whether a change is a near one; in worlds that tell of no such changes all are."""
    kind = kind_of(change)
    if kind == "rows":
        return len(change) <= MOST_NEAR_ROW
    if kind == "screen":
        return is_near_view(change)
    return is_near_round(change) if kind == "lamps" else True
