"""Plans mended by worths, round by round, up to the best one."""

from chancehall.levels import greatest, level
from chancehall.plans import check_plan, first_plan, raised_look
from chancehall.ratios import under
from chancehall.worths import worths_of


def better_door(seen, door):
    """The first door with the greatest look where that is above the look of this door, else this one."""
    most = greatest(seen)
    if under(seen[door], most):
        return seen.index(most)
    return door


def mended(hall, plan, worths):
    """The plan mended by the worths."""
    check_plan(hall, plan)
    leveled = level(worths)
    told = []
    for room, door in enumerate(plan):
        # All looks are raised alike, so the same doors are the greatest ones.
        seen = [raised_look(hall, offer, leveled) for offer in hall.offers(room)]
        told.append(None if door is None else better_door(seen, door))
    return told


def mendings(hall, plan):
    """The tuples (plan, worths), from the plan itself up to the first one that is left as it is."""
    check_plan(hall, plan)
    told = []
    # A copy, as the plan that was handed in may be changed later.
    coming = list(plan)
    while len(told) == 0 or coming != told[-1][0]:
        told.append((coming, worths_of(hall, coming)))
        coming = mended(hall, coming, told[-1][1])
    return told


def best_of(hall):
    """The best plan with its worths."""
    return mendings(hall, first_plan(hall))[-1]
