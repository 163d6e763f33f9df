"""What plans lack against the best one, and how many mendings there are at most."""

from chancehall.mending import best_of
from chancehall.plans import check_plan, looks
from chancehall.ratios import NOUGHT, minus


def lacks_of(hall, plan):
    """For each room how far the look of the plan's door, by the best worths, is below the best worth."""
    check_plan(hall, plan)
    best = best_of(hall)[1]
    told = []
    for room, door in enumerate(plan):
        told.append(NOUGHT if door is None else minus(best[room], looks(hall, room, best)[door]))
    return told


def wait_of(hall):
    """The least number of factors from 1 on, each of them the share, whose product is less than 1 - share."""
    top = hall.share[0]
    bottom = hall.share[1]
    # Products of tops and of bottoms alone: nothing divides both, so nothing is to be brought to lowest terms.
    many = 1
    tops = top
    bottoms = bottom
    while tops * bottom >= (bottom - top) * bottoms:
        many += 1
        tops *= top
        bottoms *= bottom
    return many


def most_mendings(hall):
    """The most mendings that any plan of the hall has."""
    doors = [len(hall.offers(room)) for room in range(hall.size())]
    return 1 + wait_of(hall) * sum([many - 1 for many in doors if many > 0])
