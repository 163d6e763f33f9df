"""Fractions: tuples (top, bottom) in lowest terms, the bottom from 1 on."""

from chancehall.errors import NoNumber
from chancehall.wholes import divisor, is_whole

NOUGHT = (0, 1)
ONE = (1, 1)


def ratio(top, bottom):
    """The fraction that comes of dividing top by bottom."""
    if not is_whole(top) or not is_whole(bottom):
        raise NoNumber("a fraction is made of two whole numbers")
    if bottom == 0:
        raise NoNumber("nothing is divided by nought")
    common = divisor(top, bottom)
    if bottom < 0:
        # Dividing both by a number below 0 moves the sign to the top.
        common = -common
    return (top // common, bottom // common)


def is_ratio(thing):
    """Whether a thing of any kind is a fraction."""
    if not isinstance(thing, tuple) or len(thing) != 2:
        return False
    top = thing[0]
    bottom = thing[1]
    if not is_whole(top) or not is_whole(bottom):
        return False
    return bottom >= 1 and divisor(top, bottom) == 1


def plus(one, other):
    """The sum of two fractions."""
    return ratio(one[0] * other[1] + other[0] * one[1], one[1] * other[1])


def minus(one, other):
    """The one fraction less the other."""
    return ratio(one[0] * other[1] - other[0] * one[1], one[1] * other[1])


def times(one, other):
    """The product of two fractions."""
    return ratio(one[0] * other[0], one[1] * other[1])


def over(one, other):
    """The one fraction divided by the other; NoNumber where that is nought."""
    return ratio(one[0] * other[1], one[1] * other[0])


def under(one, other):
    """Whether the one fraction is less than the other."""
    return one[0] * other[1] < other[0] * one[1]


def parted(one):
    """The whole number and the rest, from nought to below 1, whose sum the fraction is."""
    # What divides the rest and the bottom divides the top too, so the rest is in lowest terms.
    return (one[0] // one[1], (one[0] % one[1], one[1]))
