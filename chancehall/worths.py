"""What a plan is worth in each room, and how often it comes to each room."""

from chancehall.plans import check_plan
from chancehall.ratios import NOUGHT, ONE, minus, times
from chancehall.solving import only_answer, single_rows


def chosen_doors(hall, plan):
    """For each room what the hall offers by the plan's door; None in a room without doors."""
    return [None if door is None else hall.offers(room)[door] for room, door in enumerate(plan)]


def left_rows(share, chosen):
    """For each room a row: 1 in its own column, less the share of the chances of its door's ways."""
    rows = single_rows(len(chosen))
    for room, offer in enumerate(chosen):
        if offer is not None:
            for behind, chance in offer[2]:
                rows[room][behind] = minus(rows[room][behind], times(share, chance))
    return rows


def turned(rows):
    """The rows' columns as rows; of as many rows as columns."""
    return [[row[column] for row in rows] for column in range(len(rows))]


def worths_of(hall, plan):
    """The worths of the plan."""
    check_plan(hall, plan)
    chosen = chosen_doors(hall, plan)
    pays = [NOUGHT if offer is None else offer[1] for offer in chosen]
    # The share is below 1, so no row comes of the others and there is just one answer.
    return only_answer(left_rows(hall.share, chosen), pays)


def visits_from(hall, plan, start):
    """The visits of the plan from that room."""
    check_plan(hall, plan)
    hall.check_room(start)
    begin = [ONE if room == start else NOUGHT for room in range(hall.size())]
    return only_answer(turned(left_rows(hall.share, chosen_doors(hall, plan))), begin)
