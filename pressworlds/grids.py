"""Lines of integers: all sums of given ones, each any integer times.

Lines are lists. Those that come of `lines_of` are as the form of a lot of points has them: the first
number that is not 0, the pivot, is above 0 and further to the right from line to line; numbers above
a pivot are from 0 to one less than it.
"""

from itertools import combinations
from math import gcd


def less(line, times, other):
    """Return a line with another one, so many times, taken away."""
    return [number - times * more for number, more in zip(line, other)]


def pivot_place(line):
    """Return the index of the first number that is not 0; None if all are."""
    for column, number in enumerate(line):
        if number != 0:
            return column
    return None


def swept(rows, column):
    """Return lines that add up to the same as these, and of which at most the first one is not 0 in this column."""
    busy = [row for row in rows if row[column] != 0]
    idle = [row for row in rows if row[column] == 0]
    while len(busy) > 1:
        busy = sorted(busy, key=lambda row: abs(row[column]))
        least = busy[0]
        rest = [less(row, row[column] // least[column], least) for row in busy[1:]]
        busy = [least] + [row for row in rest if row[column] != 0]
        idle = idle + [row for row in rest if row[column] == 0]
    return busy + idle


def lines_of(rows, width):
    """Return the lines, by their first so many numbers, whose sums are those of these; numbers behind go along."""
    left = [list(row) for row in rows]
    lines = []
    for column in range(width):
        left = swept(left, column)
        if left and left[0][column] != 0:
            line = left[0] if left[0][column] > 0 else [-number for number in left[0]]
            left = left[1:]
            lines = [less(upper, upper[column] // line[column], line) for upper in lines] + [line]
    return lines


def taken_by_lines(lines, numbers):
    """Return what is left of numbers when lines are taken away from the left, and how often each was."""
    rest = list(numbers)
    counts = []
    for line in lines:
        column = pivot_place(line)
        times = rest[column] // line[column]
        rest = less(rest, times, line)
        counts.append(times)
    return rest, counts


def times_for(rows, numbers):
    """Return how often each of these rows is taken so that all add up to these numbers; None if they never do."""
    width = len(numbers)
    marked = [list(row) + [int(at == own) for at in range(len(rows))] for own, row in enumerate(rows)]
    rest = taken_by_lines(lines_of(marked, width), list(numbers) + [0] * len(rows))[0]
    if pivot_place(rest[:width]) is not None:
        return None
    # The times were taken away with the lines, so that what is left of them is turned about.
    return [-times for times in rest[width:]]


def left_by(number, step):
    """Return what is left of a number when multiples of a step are taken away; all of it for the step 0."""
    return number % step if step else number


def least_times(number, step):
    """Return how often, from 1 on, a number is at least to be taken to be a multiple of a step; None if it never is."""
    if step == 0:
        return None if number else 1
    return step // gcd(step, number)


def common_lines(rows, others, width):
    """Return the lines of all that sums of these, so wide, and sums of the others both are.

    Behind each of the first ones it stands once more, behind each other one only 0: where nothing
    is left in front, one sum of both kinds has been found, and it is told behind.
    """
    doubled = [list(row) * 2 for row in rows] + [list(row) + [0] * width for row in others]
    return [line[width:] for line in lines_of(doubled, 2 * width) if pivot_place(line) >= width]


def square_part(rows, columns):
    """Return the determinant of some columns, as many as there are rows."""
    if not columns:
        return 1
    total = 0
    for at, column in enumerate(columns):
        rest = columns[:at] + columns[at + 1:]
        part = rows[0][column] * square_part(rows[1:], rest)
        total = total - part if at % 2 else total + part
    return total


def parts_divisor(lines, width, size):
    """Return the greatest common divisor of all square parts of this size; 0 if there are none, or all are 0."""
    divisor = 0
    for rows in combinations(lines, size):
        for columns in combinations(range(width), size):
            divisor = gcd(divisor, square_part(rows, columns))
    return divisor


def rings_of(lines, width):
    """Return the rings of what is left of a grid so wide by these lines."""
    divisors = [parts_divisor(lines, width, size) for size in range(1, width + 1)]
    befores = [1] + divisors[:-1]
    rings = [divisor // before if before else 0 for before, divisor in zip(befores, divisors)]
    return tuple([ring for ring in rings if ring != 1])
