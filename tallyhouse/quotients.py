"""Fractions as pairs of integers, the second one from 1 on, without a common divisor."""

from math import gcd, lcm

from tallyhouse.rows import is_row_of


def quotient(top, bottom):
    """The fraction of two integers, the second one not 0."""
    common = gcd(top, bottom)
    if bottom < 0:
        common = -common
    return (top // common, bottom // common)


def is_fraction(thing):
    """Whether any value is a fraction."""
    return is_row_of(thing, 2) and thing[1] >= 1 and gcd(thing[0], thing[1]) == 1


def are_fractions(thing, many):
    """Whether any value is a tuple of so many fractions."""
    return isinstance(thing, tuple) and len(thing) == many and all([is_fraction(part) for part in thing])


def plus(one, other):
    """The sum of two fractions."""
    return quotient(one[0] * other[1] + other[0] * one[1], one[1] * other[1])


def less(one, other):
    """The first fraction less the second one."""
    return quotient(one[0] * other[1] - other[0] * one[1], one[1] * other[1])


def over(one, number):
    """A fraction by an integer that is not 0."""
    return quotient(one[0], one[1] * number)


def weighed(row, fractions):
    """The sum of the integers of a row, each times its fraction."""
    total = (0, 1)
    for number, (top, bottom) in zip(row, fractions):
        total = plus(total, (number * top, bottom))
    return total


def bottom_of(fractions):
    """The least number by which all of some fractions are integers."""
    found = 1
    for top, bottom in fractions:
        found = lcm(found, bottom)
    return found


def multiples_of(fractions):
    """Some fractions, multiplied by the least number by which all are integers."""
    bottom = bottom_of(fractions)
    return tuple([top * (bottom // further) for top, further in fractions])
