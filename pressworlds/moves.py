"""Moves, which go over a grid and sweep an area."""

from pressworlds.checks import check_degree, check_number
from pressworlds.errors import InvalidNumber, InvalidText, InvalidWalk, NotAChange
from pressworlds.grids import times_for
from pressworlds.texts import number_in, numbers_text

MOST_WALK = 4000
EAST_BY = {"e": 1, "w": -1, "n": 0, "s": 0}
NORTH_BY = {"e": 0, "w": 0, "n": 1, "s": -1}


class Move:
    """A move: so many steps east, so many north, and an area."""

    def __init__(self, east, north, area):
        check_number(east)
        check_number(north)
        check_number(area)
        self._east = east
        self._north = north
        self._area = area

    @classmethod
    def read(cls, text):
        """Return the move with this text."""
        parts = text.split(" ") if isinstance(text, str) else []
        if len(parts) == 4:
            try:
                move = cls(number_in(parts[1]), number_in(parts[2]), number_in(parts[3]))
                if str(move) == text:
                    return move
            except InvalidNumber:
                raise InvalidText(text) from None
        raise InvalidText(text)

    @property
    def east(self):
        """How many steps east."""
        return self._east

    @property
    def north(self):
        """How many steps north."""
        return self._north

    @property
    def area(self):
        """The area."""
        return self._area

    def __str__(self):
        return f"areas {numbers_text(triple_of(self))}"

    def __eq__(self, other):
        return isinstance(other, Move) and triple_of(self) == triple_of(other)


def triple_of(move):
    """Return the numbers of a move as a tuple."""
    return move.east, move.north, move.area


def check_move(value):
    """Raise NotAChange for what is no move."""
    if not isinstance(value, Move):
        raise NotAChange(value)


def check_moves(one, other):
    """Raise NotAChange for the first of two values that is no move."""
    check_move(one)
    check_move(other)


def cross(one, other):
    """Return the area of the gap of two moves."""
    return one.east * other.north - other.east * one.north


def area_often(east, north, area, times):
    """Return the area of a move so many times."""
    return times * area + times * (times - 1) // 2 * east * north


def move_then(one, other):
    """Return the one move, then the other one."""
    check_moves(one, other)
    return Move(one.east + other.east, one.north + other.north, one.area + other.area + one.east * other.north)


def move_undone(one):
    """Return the move with which this one is still."""
    return move_often(one, -1)


def move_often(one, times):
    """Return the move so many times, undone for times below 0."""
    check_move(one)
    check_number(times)
    return Move(times * one.east, times * one.north, area_often(one.east, one.north, one.area, times))


def move_order(one):
    """Return the least number from 1 on of times that are still; None if there is none."""
    check_move(one)
    return 1 if triple_of(one) == (0, 0, 0) else None


def move_gap(one, other):
    """Return one, other, one undone, other undone."""
    check_moves(one, other)
    return Move(0, 0, cross(one, other))


def is_move_alike(one, other):
    """Return whether some move ahead, and its undone one behind, makes the first move the other one."""
    return move_alike(one, other) is not None


def move_alike(one, other):
    """Return a move c such that c, then the first one, then c undone, is the other one; None if there is none.

    The gap of c and the first one is what is added to the area.
    """
    check_moves(one, other)
    if one.east != other.east or one.north != other.north:
        return None
    counts = times_for([(one.north,), (-one.east,)], (other.area - one.area,))
    return None if counts is None else Move(counts[0], counts[1], 0)


def do_moves_commute(one, other):
    """Return whether it is the same which of both is first."""
    check_moves(one, other)
    return cross(one, other) == 0


def move_root(one, degree):
    """Return the move that is the first one when done so many times; None if there is none."""
    check_move(one)
    check_degree(degree)
    if one.east % degree != 0 or one.north % degree != 0:
        return None
    east = one.east // degree
    north = one.north // degree
    left = one.area - area_often(east, north, 0, degree)
    return None if left % degree else Move(east, north, left // degree)


def move_walked(walk):
    """Return the move of a walk."""
    if not isinstance(walk, str) or len(walk) > MOST_WALK or not all([step in EAST_BY for step in walk]):
        raise InvalidWalk(walk)
    east = north = area = 0
    for step in walk:
        area += east * NORTH_BY[step]
        east += EAST_BY[step]
        north += NORTH_BY[step]
    return Move(east, north, area)
