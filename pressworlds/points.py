"""Points of grids, tuples of one to three integers."""

from pressworlds.checks import check_degree, check_number, is_integer
from pressworlds.errors import InvalidNumbers, InvalidText, NotAChange, OtherWorld
from pressworlds.limits import MOST_WIDTH
from pressworlds.texts import number_in, numbers_text


def is_numbers(value):
    """Return whether a value is a tuple of one to three integers."""
    if not isinstance(value, tuple) or not 1 <= len(value) <= MOST_WIDTH:
        return False
    return all([is_integer(number) for number in value])


class Point:
    """A point of a grid: as many integers as the grid is wide."""

    def __init__(self, numbers):
        if not is_numbers(numbers):
            raise InvalidNumbers(numbers)
        self._numbers = numbers

    @classmethod
    def read(cls, text):
        """Return the point with this text."""
        parts = text.split(" ") if isinstance(text, str) else []
        numbers = tuple([number_in(part) for part in parts[2:]])
        if is_numbers(numbers):
            point = cls(numbers)
            if str(point) == text:
                return point
        raise InvalidText(text)

    @property
    def numbers(self):
        """The tuple of its numbers."""
        return self._numbers

    def __str__(self):
        return f"grid {len(self._numbers)} {numbers_text(self._numbers)}"

    def __len__(self):
        return len(self._numbers)

    def __eq__(self, other):
        return isinstance(other, Point) and self._numbers == other._numbers


def check_point(value):
    """Raise NotAChange for what is no point."""
    if not isinstance(value, Point):
        raise NotAChange(value)


def check_points(one, other):
    """Raise what two points that are to be of one grid do not fulfil."""
    check_point(one)
    check_point(other)
    if len(one) != len(other):
        raise OtherWorld(other)


def still_point(width):
    """Return the point of a grid with all numbers 0."""
    return Point((0,) * width)


def point_then(one, other):
    """Return the sum of two points."""
    check_points(one, other)
    return Point(tuple([number + more for number, more in zip(one.numbers, other.numbers)]))


def point_undone(one):
    """Return the point with all numbers turned about."""
    return point_often(one, -1)


def point_often(one, times):
    """Return the point so many times, undone for times below 0."""
    check_point(one)
    check_number(times)
    return Point(tuple([times * number for number in one.numbers]))


def point_order(one):
    """Return the least number from 1 on of times that are still; None if there is none."""
    check_point(one)
    return None if any([number != 0 for number in one.numbers]) else 1


def point_gap(one, other):
    """Return the still point, as points always commute."""
    check_points(one, other)
    return still_point(len(one))


def is_point_alike(one, other):
    """Return whether two points are alike, that is equal."""
    check_points(one, other)
    return one == other


def point_alike(one, other):
    """Return a point c such that c, then the first one, then c undone, is the other one; None if there is none."""
    return still_point(len(one)) if is_point_alike(one, other) else None


def do_points_commute(one, other):
    """Return True, as points always commute."""
    check_points(one, other)
    return True


def point_root(one, degree):
    """Return the point that is the first one when done so many times; None if there is none."""
    check_point(one)
    check_degree(degree)
    if any([number % degree != 0 for number in one.numbers]):
        return None
    return Point(tuple([number // degree for number in one.numbers]))
