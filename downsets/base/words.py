"""The smallest values: places, integers and fractions."""

from math import gcd

from downsets.errors import InvalidNumber, InvalidOperation

MAX_LETTERS = 8


def is_place(value):
    """Tell whether a value is a place: one to eight letters a to z."""
    if not isinstance(value, str) or not 1 <= len(value) <= MAX_LETTERS:
        return False
    return all(["a" <= letter <= "z" for letter in value])


def is_whole(value):
    """Tell whether a value is an integer; True and False are none."""
    return isinstance(value, int) and not isinstance(value, bool)


def is_fraction(value):
    """Tell whether a value is a fraction: a pair of integers in lowest terms."""
    if not isinstance(value, tuple) or len(value) != 2:
        return False
    above, below = value
    if not is_whole(above) or not is_whole(below):
        return False
    return below >= 1 and gcd(above, below) == 1


def fraction(numerator, denominator):
    """Return the fraction that stands for the first number by the second."""
    for number in (numerator, denominator):
        if not is_whole(number):
            raise InvalidNumber(number)
    if denominator < 1:
        raise InvalidNumber(denominator)
    shared = gcd(numerator, denominator)
    return (numerator // shared, denominator // shared)


def is_lower(one, other):
    """Tell whether a fraction stands for less than another one."""
    need_fractions((one, other))
    return one[0] * other[1] < other[0] * one[1]


def added(*fractions):
    """Return the sum of fractions."""
    need_fractions(fractions)
    total = (0, 1)
    for above, below in fractions:
        total = fraction(total[0] * below + above * total[1], total[1] * below)
    return total


def multiplied(*fractions):
    """Return the product of fractions."""
    need_fractions(fractions)
    total = (1, 1)
    for above, below in fractions:
        total = fraction(total[0] * above, total[1] * below)
    return total


def need_fractions(values):
    """Refuse values of which one is no fraction."""
    for value in values:
        if not is_fraction(value):
            raise InvalidOperation("an argument is no fraction")
