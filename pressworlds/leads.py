"""Leads: a change of one world for each letter, so that each row is led to what comes of it letter by letter."""

from pressworlds.errors import InvalidChanges, InvalidText, NotALead, OtherWorld, TooMany
from pressworlds.limits import MOST_LETTERS, MOST_PLACES
from pressworlds.loose import loose_of, loose_then
from pressworlds.losses import lost_word
from pressworlds.lots import fitting_changes
from pressworlds.moves import move_order
from pressworlds.points import point_order
from pressworlds.rests import rest_of
from pressworlds.rounds import round_order
from pressworlds.rowlots import check_row_lot
from pressworlds.rows import Row, check_row, row_order
from pressworlds.slides import slide_order
from pressworlds.views import view_order
from pressworlds.webs import form_of_words, place_count
from pressworlds.words import ways_of
from pressworlds.worlds import check_lot, kind_of, lot_of, often, read_change, then, undone, world_of

MOST_LED_ROW = 6
GAP = "abAB"
# The gap of the gaps abAB and aBAb.
GAP_OF_GAPS = "abABaBAbbaBABabA"


def is_small(change):
    """Return whether a value is a small change of some world."""
    try:
        return len(lot_of((change,))) == 1
    except InvalidChanges:
        return False


def fits_in_lead(change, first):
    """Return whether a value is a small change of the world of the first one, and no row that is too long."""
    if not is_small(change) or world_of(change) != world_of(first):
        return False
    return not isinstance(change, Row) or len(change) <= MOST_LED_ROW


class Lead:
    """One to four small changes of one world, rows with at most 6 letters."""

    def __init__(self, changes):
        self._changes = fitting_changes(changes, fits_in_lead, MOST_LETTERS)

    @classmethod
    def read(cls, text):
        """Return the lead with this text, a line for each change."""
        if not isinstance(text, str):
            raise InvalidText(text)
        try:
            return cls(tuple([read_change(line) for line in text.split("\n")]))
        except (InvalidText, InvalidChanges):
            raise InvalidText(text) from None

    @property
    def changes(self):
        """The tuple of its changes."""
        return self._changes

    @property
    def world(self):
        """The world of its changes."""
        return world_of(self._changes[0])

    @property
    def text(self):
        """The texts of its changes, a line for each."""
        return "\n".join([str(change) for change in self._changes])

    def __len__(self):
        return len(self._changes)

    def __eq__(self, other):
        return isinstance(other, Lead) and self.text == other.text


def check_lead(value):
    """Raise NotALead for what is no lead."""
    if not isinstance(value, Lead):
        raise NotALead(value)


def check_led_row(lead, row):
    """Raise what a lead and a row with as many letters do not fulfil."""
    check_lead(lead)
    check_row(row)
    if row.letters != len(lead):
        raise OtherWorld(row)


def still_of(lead):
    """Return the still change of the lead's world."""
    return often(lead.changes[0], 0)


def changes_by_way(lead):
    """Return a dict from each letter, small and capital, to its change, in the order in which webs go by letters."""
    both = [change for told in lead.changes for change in (told, undone(told))]
    return {way: change for way, change in zip(ways_of(len(lead)), both)}


def led(lead, row):
    """Return the change to which a row is led."""
    check_led_row(lead, row)
    changes = changes_by_way(lead)
    total = still_of(lead)
    for way in row.word:
        total = then(total, changes[way])
    return total


def led_lot(lead, lot):
    """Return the lot of the changes to which the told rows of a lot are led."""
    check_lead(lead)
    check_row_lot(lot)
    if lot.letters != len(lead):
        raise OtherWorld(lot)
    return lot_of(tuple([led(lead, row) for row in lot.changes]))


def is_lost(lead, row):
    """Return whether a row that is not still is led to the still change, however great what comes on the way."""
    check_led_row(lead, row)
    still = still_of(lead)
    done = {way: loose_of(change) for way, change in changes_by_way(lead).items()}
    total = loose_of(still)
    for way in row.word:
        total = loose_then(still, total, done[way])
    return row.word != "" and total == loose_of(still)


def order_of(change):
    """Return the order of a change of any world."""
    calls = {"rows": row_order, "grid": point_order, "ruler": slide_order, "screen": view_order, "lamps": round_order,
             "areas": move_order}
    call = calls[kind_of(change)]
    return call(change)


def is_of_rows(lead):
    """Return whether the lead's world is one of rows."""
    return isinstance(lead.changes[0], Row)


def words_of(lead):
    """Return the words of the changes of a lead into a world of rows."""
    return [row.word for row in lead.changes]


def keeps_apart(lead):
    """Return whether no row is lost."""
    check_lead(lead)
    if len(lead) == 1:
        return order_of(lead.changes[0]) is None
    if not is_of_rows(lead):
        return False
    ties = form_of_words(words_of(lead))
    return len(ties) - place_count(ties) + 1 == len(lead)


def lost_row(lead):
    """Return a row that is lost; None if there is none."""
    if keeps_apart(lead):
        return None
    if len(lead) == 1:
        return Row(1, "a" * order_of(lead.changes[0]))
    if is_of_rows(lead):
        return Row(len(lead), lost_word(words_of(lead)))
    gap = Row(len(lead), GAP)
    return gap if is_lost(lead, gap) else Row(len(lead), GAP_OF_GAPS)


def web_into(lead, lot):
    """Return the ties of the web led into a lot; each place is kept as the rest of the changes that belong to it."""
    check_lead(lead)
    check_lot(lot)
    if world_of(lot.changes[0]) != lead.world:
        raise OtherWorld(lot)
    still = still_of(lead)
    changes = changes_by_way(lead)
    places = [rest_of(lot, loose_of(still))]
    ties = []
    at = 0
    while at < len(places):
        for way, change in changes.items():
            goal = rest_of(lot, loose_then(still, places[at], loose_of(change)))
            if goal not in places:
                if len(places) == MOST_PLACES:
                    raise TooMany(MOST_PLACES + 1)
                places.append(goal)
            if way.islower():
                ties.append((at, way, places.index(goal)))
        at += 1
    return tuple(sorted(ties))
