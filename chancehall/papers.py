"""Rows of fractions, walked by steps, and reduced in their first columns.

Within this file each row stands over one bottom, as a tuple (tops, bottom), tops a list
of whole numbers; no number above 1 divides all of them. So what divides them is looked
for once a row, not at each of its numbers.
"""

from chancehall.levels import level
from chancehall.ratios import NOUGHT, ONE, minus, over, ratio
from chancehall.wholes import divisor


def lowest(tops, bottom):
    """These tops over this bottom, without what divides all of them."""
    common = bottom
    for top in tops:
        common = divisor(top, common)
    return ([top // common for top in tops], bottom // common)


def row_times(row, often):
    """The row taken so often."""
    return lowest([top * often[0] for top in row[0]], row[1] * often[1])


def row_plus(row, other, often):
    """The row, and the other one to it, taken so often."""
    # Both are brought to the least bottom that fits them: products of both bottoms soon grow long.
    bottom = other[1] * often[1]
    common = divisor(row[1], bottom)
    own = bottom // common
    added = row[1] // common * often[0]
    tops = [one * own + another * added for one, another in zip(row[0], other[0])]
    return lowest(tops, row[1] * own)


def take_step(leveled, step):
    """One step, in the list of rows itself."""
    row = leveled[step[1]]
    if step[0] == "swap":
        leveled[step[1]] = leveled[step[2]]
        leveled[step[2]] = row
    elif step[0] == "times":
        leveled[step[1]] = row_times(row, step[2])
    else:
        leveled[step[1]] = row_plus(row, leveled[step[2]], step[3])


def number_at(row, column):
    """The number of a row in that column."""
    return ratio(row[0][column], row[1])


def fractions_of(leveled):
    """The rows, with each number as a fraction again."""
    return [[ratio(top, row[1]) for top in row[0]] for row in leveled]


def walked(rows, steps):
    """The rows that come of walking by the steps."""
    leveled = [level(row) for row in rows]
    for step in steps:
        take_step(leveled, step)
    return fractions_of(leveled)


def first_from(leveled, place, column):
    """The first row from that place on that is not nought in the column; None where there is none."""
    for row in range(place, len(leveled)):
        if leveled[row][0][column] != 0:
            return row
    return None


def go_on(leveled, steps, step):
    """One step taken, and kept."""
    take_step(leveled, step)
    steps.append(step)


def begin_row(leveled, steps, place, found, column):
    """The row that was found is brought to its place, and made to begin with a 1."""
    if found != place:
        go_on(leveled, steps, ("swap", place, found))
    first = number_at(leveled[place], column)
    if first != ONE:
        go_on(leveled, steps, ("times", place, over(ONE, first)))


def clear_column(leveled, steps, place, column):
    """Noughts in the column, but for the 1 with which the row of that place begins there."""
    for row in range(len(leveled)):
        if row != place and leveled[row][0][column] != 0:
            often = minus(NOUGHT, number_at(leveled[row], column))
            go_on(leveled, steps, ("add", row, place, often))


def reduced(rows, wide):
    """The tuple (steps, end): the rows reduced in their first columns, as many as wide tells."""
    leveled = [level(row) for row in rows]
    steps = []
    # Each row that begins takes two steps at most, and one in each other row: fewer than [16] allows.
    place = 0
    for column in range(wide):
        found = first_from(leveled, place, column)
        if found is not None:
            begin_row(leveled, steps, place, found, column)
            clear_column(leveled, steps, place, column)
            place += 1
    return (steps, fractions_of(leveled))
