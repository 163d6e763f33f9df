"""Rows and their rights solved, with papers by which each answer can be followed."""

from chancehall.papers import reduced, walked
from chancehall.ratios import NOUGHT, ONE, minus, over


def width_of(rows):
    """The number of columns."""
    if len(rows) == 0:
        return 0
    return len(rows[0])


def with_rights(rows, rights):
    """Each row with its right behind it."""
    return [row + [right] for row, right in zip(rows, rights)]


def begins_of(end, wide):
    """The columns in which reduced rows begin, one for each row that does."""
    begins = []
    for row in end:
        columns = [column for column in range(wide) if row[column] != NOUGHT]
        if len(columns) > 0:
            begins.append(columns[0])
    return begins


def odd_row(end, begins, wide):
    """The first row of noughts with a right that is not nought; None where there is none."""
    for row in range(len(begins), len(end)):
        if end[row][wide] != NOUGHT:
            return row
    return None


def answer_of(end, begins, wide):
    """The answer that is nought wherever no row begins."""
    answer = [NOUGHT] * wide
    for row, column in enumerate(begins):
        answer[column] = end[row][wide]
    return answer


def blank_of(end, begins, wide):
    """What can be added to an answer: 1 in the first column where no row begins."""
    free = [column for column in range(wide) if column not in begins][0]
    blank = [NOUGHT] * wide
    blank[free] = ONE
    for row, column in enumerate(begins):
        blank[column] = minus(NOUGHT, end[row][free])
    return blank


def single_rows(many):
    """As many rows as columns, each with 1 in its own column and nought elsewhere."""
    return [[ONE if column == row else NOUGHT for column in range(many)] for row in range(many)]


def solved(rows, rights):
    """The tuple ("one", x, left), ("many", x, z) or ("none", y)."""
    wide = width_of(rows)
    done = reduced(with_rights(rows, rights), wide)
    steps = done[0]
    end = done[1]
    begins = begins_of(end, wide)
    odd = odd_row(end, begins, wide)
    # Walked by the same steps, single rows tell how often each row is in each row of the end.
    if odd is not None:
        last = ("times", odd, over(ONE, end[odd][wide]))
        return ("none", walked(single_rows(len(rows)), steps + [last])[odd])
    answer = answer_of(end, begins, wide)
    if len(begins) < wide:
        return ("many", answer, blank_of(end, begins, wide))
    return ("one", answer, walked(single_rows(len(rows)), steps)[:wide])


def only_answer(rows, rights):
    """The answer where there is just one, else None."""
    wide = width_of(rows)
    end = reduced(with_rights(rows, rights), wide)[1]
    begins = begins_of(end, wide)
    if len(begins) < wide or odd_row(end, begins, wide) is not None:
        return None
    return answer_of(end, begins, wide)
