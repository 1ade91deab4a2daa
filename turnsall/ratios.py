"""FRACTIONS: pairs (TOP, BOTTOM) in lowest terms, BOTTOM from 1 on."""

from math import gcd

from turnsall.kinds import is_tuple_of

def ratio(top, bottom):
    """The FRACTION top / bottom; bottom is above 0."""
    common = gcd(top, bottom)
    return (top // common, bottom // common)


def added(first, second):
    """The sum of two FRACTIONS."""
    return ratio(first[0] * second[1] + second[0] * first[1], first[1] * second[1])


def negative(fraction):
    """The FRACTION with the other sign."""
    return (0 - fraction[0], fraction[1])


def is_ratio(value):
    """Whether what plain() told is a FRACTION."""
    if not is_tuple_of(value, 2) or not isinstance(value[0], int) or not isinstance(value[1], int):
        return False
    return value[1] >= 1 and gcd(value[0], value[1]) == 1
