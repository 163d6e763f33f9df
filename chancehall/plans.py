"""Plans: a door for each room; and how the doors of a room look by worths."""

from chancehall.errors import NoPlan
from chancehall.levels import level
from chancehall.ratios import over, plus, ratio, times
from chancehall.wholes import is_whole


def first_plan(hall):
    """The plan with door 0 in each room that has doors."""
    return [0 if len(hall.offers(room)) > 0 else None for room in range(hall.size())]


def fits(thing, many):
    """Whether a thing of any kind may stand in a plan for a room with so many doors."""
    if many == 0:
        return thing is None
    return is_whole(thing) and 0 <= thing < many


def check_plan(hall, plan):
    """True where a thing of any kind is a plan of the hall, else NoPlan."""
    if not isinstance(plan, list) or len(plan) != hall.size():
        raise NoPlan(None)
    for room, thing in enumerate(plan):
        if not fits(thing, len(hall.offers(room))):
            raise NoPlan(room)
    return True


def behind_door(offer, tops):
    """The sum of chance times top over the ways of a door, as the hall offers it; tops has one for each room."""
    leveled = level([chance for room, chance in offer[2]])
    return ratio(sum([part * tops[way[0]] for part, way in zip(leveled[0], offer[2])]), leveled[1])


def raised_look(hall, offer, leveled):
    """The look of one door, as the hall offers it, times the bottom of the worths, told as (tops, bottom)."""
    # Worths may have thousands of figures: times their bottom no two such numbers are sought for what divides both.
    behind = behind_door(offer, leveled[0])
    return plus(times(offer[1], (leveled[1], 1)), times(hall.share, behind))


def looks(hall, room, worths):
    """The looks of the room's doors, in their order."""
    offered = hall.offers(room)
    leveled = level(worths)
    return [over(raised_look(hall, offer, leveled), (leveled[1], 1)) for offer in offered]
