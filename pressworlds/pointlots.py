"""Lots of points: what some points make, by which plan, and what is left of the grid by them."""

from math import gcd

from pressworlds.errors import InvalidChanges, InvalidText, NotALot, OtherWorld
from pressworlds.grids import common_lines, lines_of, pivot_place, rings_of, taken_by_lines, times_for
from pressworlds.limits import MOST_NUMBER
from pressworlds.lots import needless_of, told_changes
from pressworlds.plans import check_plan, plan_done, plan_of_parts
from pressworlds.points import Point, check_point, point_often, point_then, still_point


def fits_in_lot(change, first):
    """Return whether a value is a small point as wide as the first one."""
    if not isinstance(change, Point) or len(change) != len(first):
        return False
    return all([abs(number) <= MOST_NUMBER for number in change.numbers])


class PointLot:
    """One to five told points, with numbers from -10 ** 30 to 10 ** 30."""

    def __init__(self, changes):
        self._changes = told_changes(changes, fits_in_lot)

    @classmethod
    def read(cls, text):
        """Return the lot with this text, a line for each point."""
        if not isinstance(text, str):
            raise InvalidText(text)
        try:
            return cls(tuple([Point.read(line) for line in text.split("\n")]))
        except (InvalidText, InvalidChanges):
            raise InvalidText(text) from None

    @property
    def changes(self):
        """The tuple of told points."""
        return self._changes

    @property
    def text(self):
        """The texts of the told points, a line for each."""
        return "\n".join([str(point) for point in self._changes])

    @property
    def width(self):
        """How wide its grid is."""
        return len(self._changes[0])

    @property
    def rows(self):
        """The list of the tuples of numbers of the told points."""
        return [point.numbers for point in self._changes]

    def __str__(self):
        return str(self.text)

    def __len__(self):
        return len(self._changes)

    def __eq__(self, other):
        return isinstance(other, PointLot) and self.text == other.text


def check_point_lot(value):
    """Raise NotALot for what is no lot of points."""
    if not isinstance(value, PointLot):
        raise NotALot(value)


def check_point_lots(lot, other_lot):
    """Raise what two lots of points that are to be of one grid do not fulfil."""
    check_point_lot(lot)
    check_point_lot(other_lot)
    if lot.width != other_lot.width:
        raise OtherWorld(other_lot)


def check_point_beside(lot, change):
    """Raise what a lot of points and a point of its grid do not fulfil."""
    check_point_lot(lot)
    check_point(change)
    if lot.width != len(change):
        raise OtherWorld(change)


def lines_of_lot(lot):
    """Return the lines of the form as lists."""
    return lines_of(lot.rows, lot.width)


def form_of_lines(lines):
    """Return lines as a form has them."""
    return tuple([tuple(line) for line in lines])


def is_zero(numbers):
    """Return whether all numbers are 0."""
    return pivot_place(numbers) is None


def is_sum_of(rows, numbers):
    """Return whether numbers are a sum of these ones, each any integer times."""
    return is_zero(taken_by_lines(lines_of(rows, len(numbers)), numbers)[0])


def point_form(lot):
    """Return the form: the tuple of its lines."""
    check_point_lot(lot)
    return form_of_lines(lines_of_lot(lot))


def point_cosets(lot):
    """Return the number of cosets; None for endlessly many."""
    check_point_lot(lot)
    lines = lines_of_lot(lot)
    if len(lines) < lot.width:
        return None
    many = 1
    for column, line in enumerate(lines):
        many = many * line[column]
    return many


def point_makes(lot, change):
    """Return whether a point is made."""
    check_point_beside(lot, change)
    return is_sum_of(lot.rows, change.numbers)


def point_plan(lot, change):
    """Return a plan that does a point; None if it is not made."""
    check_point_beside(lot, change)
    counts = times_for(lot.rows, change.numbers)
    return None if counts is None else plan_of_parts(list(range(len(lot))), counts)


def point_doing(lot, plan):
    """Return the point that a plan does."""
    check_point_lot(lot)
    check_plan(plan, len(lot))
    return plan_done(plan, lot.changes, still_point(lot.width), point_then, point_often)


def same_points(lot, other_lot):
    """Return whether both lots make the same points."""
    check_point_lots(lot, other_lot)
    return lines_of_lot(lot) == lines_of_lot(other_lot)


def points_within(lot, other_lot):
    """Return whether the second lot makes all that the first one makes."""
    check_point_lots(lot, other_lot)
    return all([is_sum_of(other_lot.rows, row) for row in lot.rows])


def point_meet(lot, other_lot):
    """Return the form of the lot of all points that both lots make."""
    check_point_lots(lot, other_lot)
    return form_of_lines(common_lines(lot.rows, other_lot.rows, lot.width))


def needless_points(lot):
    """Return the indexes of the told points without which, each by itself, the same lot is made."""
    check_point_lot(lot)
    return needless_of(lot.rows, is_sum_of)


def point_rings(lot):
    """Return the rings: the numbers modulo which the cosets, added, are like tuples of numbers."""
    check_point_lot(lot)
    return rings_of(lines_of_lot(lot), lot.width)


def point_rest(lot, change):
    """Return the point of the same coset with, in each pivot's place, a number from 0 to one less than the pivot."""
    check_point_beside(lot, change)
    return Point(tuple(taken_by_lines(lines_of_lot(lot), change.numbers)[0]))


def order_in_rest(lot, change):
    """Return the least number from 1 on of times that a point is in the lot; None if there is none."""
    check_point_beside(lot, change)
    order = 1
    rest = list(change.numbers)
    for line in lines_of_lot(lot):
        column = pivot_place(line)
        # The line before can be taken away, so that only whole times of this number are free.
        more = line[column] // gcd(line[column], rest[column])
        order = order * more
        rest = taken_by_lines([line], [more * number for number in rest])[0]
    return order if is_zero(rest) else None


def point_counts(lot, change):
    """Return how often each line of the form is in a point of the lot; None for another point."""
    check_point_beside(lot, change)
    rest, counts = taken_by_lines(lines_of_lot(lot), change.numbers)
    return tuple(counts) if is_zero(rest) else None
