"""Plans: a door for each room; and how the doors of a room look by worths."""

from chancehall.errors import NoPlan
from chancehall.levels import total
from chancehall.ratios import plus, times
from chancehall.wholes import is_whole


def first_plan(hall):
    """The plan with door 0 in each room that has doors."""
    return [0 if len(hall.offers(room)) > 0 else None for room in range(hall.size())]


def fits(thing, many):
    """Whether a thing of any kind may stand in a plan for a room with so many doors."""
    if many == 0:
        return thing is None
    return is_whole(thing) and 0 <= thing < many


def check_plan(hall, plan):
    """True where a thing of any kind is a plan of the hall, else NoPlan."""
    if not isinstance(plan, list) or len(plan) != hall.size():
        raise NoPlan(None)
    for room, thing in enumerate(plan):
        if not fits(thing, len(hall.offers(room))):
            raise NoPlan(room)
    return True


def look_of(hall, offer, worths):
    """The look of one door, as the hall offers it."""
    behind = total([times(chance, worths[room]) for room, chance in offer[2]])
    return plus(offer[1], times(hall.share, behind))


def looks(hall, room, worths):
    """The looks of the room's doors, in their order."""
    return [look_of(hall, offer, worths) for offer in hall.offers(room)]
