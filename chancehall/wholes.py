"""Whole numbers."""


def is_whole(thing):
    """Whether a thing of any kind is a whole number."""
    # Python counts True and False among its ints.
    return isinstance(thing, int) and not isinstance(thing, bool)


def divisor(one, other):
    """The greatest whole number that divides both; 0 of 0 and 0."""
    left = abs(one)
    right = abs(other)
    while right != 0:
        rest = left % right
        left = right
        right = rest
    return left
