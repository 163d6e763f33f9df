"""What can be paid, what a plan is paid, and how likely a goal is come to, within so many steps."""

from chancehall.errors import NoNumber
from chancehall.levels import greatest, level
from chancehall.plans import behind_door, check_plan, raised_look
from chancehall.ratios import NOUGHT, ONE, over
from chancehall.ways import goal_marks
from chancehall.wholes import is_whole
from chancehall.worths import chosen_doors

MOST = 40


def check_many(many):
    """NoNumber where a thing of any kind is no number of rounds."""
    if not is_whole(many) or not 0 <= many <= MOST:
        raise NoNumber("rounds are asked for by a whole number from 0 to 40")


def lowered(raised, bottom):
    """What was raised by the bottom, as it was; nought where it is None."""
    return NOUGHT if raised is None else over(raised, (bottom, 1))


def best_round(hall, ahead):
    """The greatest look in each room by the round ahead."""
    leveled = level(ahead)
    told = []
    for room in range(hall.size()):
        # All looks are raised alike, so that the greatest one alone is brought to lowest terms.
        seen = [raised_look(hall, offer, leveled) for offer in hall.offers(room)]
        told.append(lowered(greatest(seen), leveled[1]))
    return told


def plan_round(hall, chosen, ahead):
    """The look of the plan's door in each room by the round ahead."""
    leveled = level(ahead)
    raised = [None if offer is None else raised_look(hall, offer, leveled) for offer in chosen]
    return [lowered(one, leveled[1]) for one in raised]


def goal_round(hall, marks, ahead):
    """1 in goals, elsewhere the greatest chance behind a door of the room by the round ahead."""
    leveled = level(ahead)
    told = []
    for room, goal in enumerate(marks):
        offered = [] if goal else hall.offers(room)
        most = greatest([behind_door(offer, leveled[0]) for offer in offered])
        told.append(ONE if goal else lowered(most, leveled[1]))
    return told


def rounds_behind(first, many, follow):
    """The first round, and so many more, each of which follows the one ahead."""
    told = [first]
    while len(told) <= many:
        told.append(follow(told[-1]))
    return told


def best_rounds(hall, many):
    """The most that can be paid in each room, within 0, 1 and so on up to so many steps."""
    check_many(many)
    return rounds_behind([NOUGHT] * hall.size(), many, lambda ahead: best_round(hall, ahead))


def plan_rounds(hall, plan, many):
    """What the plan is paid in each room, within 0, 1 and so on up to so many steps."""
    check_plan(hall, plan)
    check_many(many)
    chosen = chosen_doors(hall, plan)
    return rounds_behind([NOUGHT] * hall.size(), many, lambda ahead: plan_round(hall, chosen, ahead))


def goal_rounds(hall, goals, many):
    """The greatest chances to come to a goal, within 0, 1 and so on up to so many steps."""
    marks = goal_marks(hall, goals)
    check_many(many)
    first = [ONE if goal else NOUGHT for goal in marks]
    return rounds_behind(first, many, lambda ahead: goal_round(hall, marks, ahead))
