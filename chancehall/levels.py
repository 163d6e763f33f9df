"""Lists of fractions: one bottom for all, their total, the greatest and the least."""

from chancehall.ratios import ratio, under
from chancehall.wholes import divisor


def level(fractions):
    """The tuple (tops, bottom): the fractions over the least bottom that all of theirs divide."""
    bottom = 1
    for one in fractions:
        bottom = bottom // divisor(bottom, one[1]) * one[1]
    return ([one[0] * (bottom // one[1]) for one in fractions], bottom)


def total(fractions):
    """The sum of all; nought of none."""
    # Adding tops over one bottom brings the sum to lowest terms once, not at each fraction.
    leveled = level(fractions)
    return ratio(sum(leveled[0]), leveled[1])


def greatest(fractions):
    """The greatest of them; None of none."""
    found = None
    for one in fractions:
        if found is None or under(found, one):
            found = one
    return found


def least(fractions):
    """The least of them; None of none."""
    found = None
    for one in fractions:
        if found is None or under(one, found):
            found = one
    return found
