"""Lots of moves: what some moves make, by which plan, and how many cosets they leave.

The way of a lot is a move whose steps east are the greatest common divisor of all steps east, done by
a plan over the told moves; each told one, with the way so often ahead that its steps east are gone, is
a flat one. Flat ones add up number by number. With them and the gaps of the way and each of them, all
moves without steps east that the lot makes are sums; so these are the sums of lines of two numbers.
"""

from math import gcd, lcm

from pressworlds.errors import InvalidChanges, InvalidText, NotALot
from pressworlds.grids import common_lines, left_by, least_times, lines_of, pivot_place, taken_by_lines, times_for
from pressworlds.limits import MOST_NUMBER
from pressworlds.lots import needless_of, told_changes
from pressworlds.moves import Move, check_move, move_often, move_then, triple_of
from pressworlds.plans import check_plan, plan_done, plan_of_parts


def fits_in_lot(change, _):
    """Return whether a value is a small move; all moves are of one world."""
    return isinstance(change, Move) and all([abs(number) <= MOST_NUMBER for number in triple_of(change)])


class MoveLot:
    """One to five told moves, with numbers from -10 ** 30 to 10 ** 30."""

    def __init__(self, changes):
        self._changes = told_changes(changes, fits_in_lot)
        self._form = form_of_moves(self._changes)

    @classmethod
    def read(cls, text):
        """Return the lot with this text, a line for each move."""
        if not isinstance(text, str):
            raise InvalidText(text)
        try:
            return cls(tuple([Move.read(line) for line in text.split("\n")]))
        except (InvalidText, InvalidChanges):
            raise InvalidText(text) from None

    @property
    def changes(self):
        """The tuple of told moves."""
        return self._changes

    @property
    def text(self):
        """The texts of the told moves, a line for each."""
        return "\n".join([str(move) for move in self._changes])

    @property
    def form(self):
        """The triple of east, north and z."""
        return self._form

    def __str__(self):
        return str(self.text)

    def __len__(self):
        return len(self._changes)

    def __eq__(self, other):
        return isinstance(other, MoveLot) and self.text == other.text


def check_move_lot(value):
    """Raise NotALot for what is no lot of moves."""
    if not isinstance(value, MoveLot):
        raise NotALot(value)


def check_move_lots(lot, other_lot):
    """Raise NotALot for the first of two values that is no lot of moves."""
    check_move_lot(lot)
    check_move_lot(other_lot)


def check_move_beside(lot, change):
    """Raise what a lot of moves and a move do not fulfil."""
    check_move_lot(lot)
    check_move(change)


def way_counts(moves):
    """Return how often each move is in the way; the plan of the way does them in order."""
    divisor = 0
    for move in moves:
        divisor = gcd(divisor, move.east)
    return times_for([(move.east,) for move in moves], (divisor,))


def moves_done(moves, counts):
    """Return what moves do, each so many times, one behind another."""
    total = Move(0, 0, 0)
    for move, times in zip(moves, counts):
        total = move_then(total, move_often(move, times))
    return total


def ways_in(move, way):
    """Return how often the way has the steps east of a move, which are a multiple of its ones."""
    return move.east // way.east if way.east else 0


def flat_move(move, way):
    """Return a move with the way so often ahead that its steps east are gone."""
    return move_then(move_often(way, -ways_in(move, way)), move)


def flat_rows(moves, way):
    """Return steps north and area of each flat one, and of the gap of the way and each flat one."""
    flats = [flat_move(move, way) for move in moves]
    return [(flat.north, flat.area) for flat in flats], [(0, way.east * flat.north) for flat in flats]


def form_of_moves(moves):
    """Return the form of what these moves, or none, make."""
    way = moves_done(moves, way_counts(moves))
    flats, gaps = flat_rows(moves, way)
    return form_by(way, lines_of(flats + gaps, 2))


def form_by(way, lines):
    """Return the form with these lines of the moves without steps east, and with a move of the fewest steps east."""
    north = ()
    z = 0
    for line in lines:
        if pivot_place(line) == 0:
            north = (0, line[0], line[1])
        else:
            z = line[1]
    if way.east == 0:
        return (), north, z
    if north:
        norths = -(way.north // north[1])
        way = move_then(way, Move(0, norths * north[1], norths * north[2]))
    return (way.east, way.north, left_by(way.area, z)), north, z


def lines_in(form):
    """Return the lines of the moves without steps east that a lot with this form makes."""
    _, north, z = form
    lines = [[north[1], north[2]]] if north else []
    return lines + [[0, z]] if z else lines


def move_in(triple):
    """Return the move with these numbers, the still one for none."""
    return Move(triple[0], triple[1], triple[2]) if triple else Move(0, 0, 0)


def is_move_in(form, move):
    """Return whether a move is made by a lot with this form."""
    east = move_in(form[0])
    if left_by(move.east, east.east) != 0:
        return False
    flat = flat_move(move, east)
    return pivot_place(taken_by_lines(lines_in(form), [flat.north, flat.area])[0]) is None


def is_move_made(moves, move):
    """Return whether these moves, or none, make a move."""
    return is_move_in(form_of_moves(moves), move)


def move_form(lot):
    """Return the form: east, north and z."""
    check_move_lot(lot)
    return lot.form


def move_cosets(lot):
    """Return the number of cosets; None for endlessly many."""
    check_move_lot(lot)
    east, north, z = lot.form
    return east[0] * north[1] * z if east and north else None


def move_makes(lot, change):
    """Return whether a move is made."""
    check_move_beside(lot, change)
    return is_move_in(lot.form, change)


def move_plan(lot, change):
    """Return a plan that does a move; None if it is not made."""
    check_move_beside(lot, change)
    if not is_move_in(lot.form, change):
        return None
    told = list(range(len(lot)))
    counts = way_counts(lot.changes)
    way = moves_done(lot.changes, counts)
    way_plan = plan_of_parts(told, counts)
    parts = [plan_of_parts([way_plan, at], [-ways_in(lot.changes[at], way), 1]) for at in told]
    gaps = [((way_plan, 1), (part, 1), (way_plan, -1), (part, -1)) for part in parts]
    flats, gap_rows = flat_rows(lot.changes, way)
    goal = flat_move(change, way)
    shares = times_for(flats + gap_rows, (goal.north, goal.area))
    return plan_of_parts([way_plan] + parts + gaps, [ways_in(change, way)] + shares)


def move_doing(lot, plan):
    """Return the move that a plan does."""
    check_move_lot(lot)
    check_plan(plan, len(lot))
    return plan_done(plan, lot.changes, Move(0, 0, 0), move_then, move_often)


def same_moves(lot, other_lot):
    """Return whether both lots make the same moves."""
    check_move_lots(lot, other_lot)
    return lot.form == other_lot.form


def moves_within(lot, other_lot):
    """Return whether the second lot makes all that the first one makes."""
    check_move_lots(lot, other_lot)
    return all([is_move_in(other_lot.form, move) for move in lot.changes])


def move_meet(lot, other_lot):
    """Return the form of the lot of all moves that both lots make."""
    check_move_lots(lot, other_lot)
    lines = common_lines(lines_in(lot.form), lines_in(other_lot.form), 2)
    return form_by(common_way(lot.form, other_lot.form), lines)


def common_way(form, other):
    """Return a move with the fewest steps east, above 0, that lots with these forms both make; the still one for none.

    With some steps east, the moves of each lot are those of one move and of the lines of the lot, added
    number by number. So a lot and another one have such a move in common if the difference of the two
    moves is a sum of all lines. Its steps north grow evenly with the steps east; where these are a sum
    of lines, so does the rest of the area, but for multiples of all lines that are areas alone.
    """
    if not form[0] or not other[0]:
        return Move(0, 0, 0)
    lines = lines_in(form) + lines_in(other)
    both = lines_of(lines, 2)
    step = lcm(form[0][0], other[0][0])
    many = 1
    for column in range(2):
        rest = taken_by_lines(both, apart_of(form, other, many * step))[0]
        pivots = [line[column] for line in both if pivot_place(line) == column]
        more = least_times(rest[column], pivots[0] if pivots else 0)
        if more is None:
            return Move(0, 0, 0)
        many = many * more
    shares = times_for(lines, apart_of(form, other, many * step))
    own = plain_sum(lines_in(form), shares)
    return move_then(east_often(form, many * step), Move(0, own[0], own[1] - many * step * own[0]))


def east_often(form, east):
    """Return the east of a form, so often that it has these steps east."""
    return move_often(move_in(form[0]), east // form[0][0])


def apart_of(form, other, east):
    """Return how far, in steps north and in area, the easts of two forms are apart at these steps east."""
    first = east_often(form, east)
    second = east_often(other, east)
    return [second.north - first.north, second.area - first.area]


def plain_sum(lines, counts):
    """Return the sum of lines of two numbers, each so many times; counts for further lines are left out."""
    total = [0, 0]
    for line, times in zip(lines, counts):
        total = [total[0] + times * line[0], total[1] + times * line[1]]
    return total


def needless_moves(lot):
    """Return the indexes of the told moves without which, each by itself, the same lot is made."""
    check_move_lot(lot)
    return needless_of(lot.changes, is_move_made)
