"""Fractions: pairs (TOP, BOTTOM) of integers in lowest terms, the bottom above 0."""

from math import gcd

from pressworlds.checks import is_integer
from pressworlds.texts import number_in, number_text

ZERO = (0, 1)


def is_ratio(value):
    """Return whether a value is a fraction."""
    if not isinstance(value, tuple) or len(value) != 2:
        return False
    top, bottom = value
    return is_integer(top) and is_integer(bottom) and bottom > 0 and gcd(top, bottom) == 1


def ratio(top, bottom):
    """Return the fraction of two integers, of which the second one is not 0."""
    shared = gcd(top, bottom) if bottom > 0 else -gcd(top, bottom)
    return top // shared, bottom // shared


def ratio_plus(one, other):
    """Return the sum of two fractions."""
    return ratio(one[0] * other[1] + other[0] * one[1], one[1] * other[1])


def ratio_less(one, other):
    """Return the one fraction with the other one taken away."""
    return ratio(one[0] * other[1] - other[0] * one[1], one[1] * other[1])


def ratio_times(one, other):
    """Return the product of two fractions."""
    return ratio(one[0] * other[0], one[1] * other[1])


def ratio_over(one, other):
    """Return the one fraction divided by the other one, which is not 0."""
    return ratio(one[0] * other[1], one[1] * other[0])


def power_of(base, exponent):
    """Return the power of an integer other than 0, a fraction, for any integer as exponent."""
    power = 1
    square = base
    left = abs(exponent)
    while left > 0:
        if left % 2 == 1:
            power = power * square
        square = square * square
        left = left // 2
    return (power, 1) if exponent >= 0 else ratio(1, power)


def stripped(number, factor):
    """Return what is left of an integer other than 0 when all that it has in common with a factor is divided out."""
    left = number
    shared = gcd(left, factor)
    while shared > 1:
        left = left // shared
        shared = gcd(left, factor)
    return left


def fits(value, factor):
    """Return whether the bottom of a fraction divides some power of a factor."""
    return stripped(value[1], factor) == 1


def exponent_in(value, base):
    """Return the exponent of the power of a base from 2 on that a fraction is; None if it is none."""
    top, bottom = value
    left = max(top, bottom)
    if min(top, bottom) != 1:
        return None
    exponent = 0
    while left % base == 0:
        left = left // base
        exponent += 1
    if left != 1:
        return None
    return exponent if bottom == 1 else -exponent


def ratio_text(value):
    """Return the text of a fraction."""
    top, bottom = value
    return number_text(top) if bottom == 1 else f"{number_text(top)}/{number_text(bottom)}"


def ratio_in(text):
    """Return the pair of integers with this text, in lowest terms or not; None if there is none."""
    top, slash, bottom = text.partition("/")
    pair = (number_in(top), number_in(bottom) if slash else 1)
    return None if None in pair else pair
