"""How likely a goal is come to: by a plan, at the most, and at the least."""

from chancehall.levels import greatest, least, level
from chancehall.plans import behind_door, check_plan, first_plan
from chancehall.ratios import NOUGHT, ONE
from chancehall.solving import only_answer
from chancehall.ways import by_each, by_some, goal_marks, leads_of, meets, steps_to
from chancehall.worths import chosen_doors, left_rows


def on_the_way(marks, chosen):
    """The doors of a plan, but None in goals and in rooms from which they lead to none."""
    leads = [[] if offer is None else [[room for room, chance in offer[2]]] for offer in chosen]
    steps = steps_to(marks, leads, by_some)
    return [None if step is None or step == 0 else offer for step, offer in zip(steps, chosen)]


def plan_chances(hall, marks, plan):
    """The chances of a plan, where the goals are marked."""
    rights = [ONE if mark else NOUGHT for mark in marks]
    # Rooms that lead to no goal are held at nought: else those that lead but to one another could have any chance.
    return only_answer(left_rows(ONE, on_the_way(marks, chosen_doors(hall, plan))), rights)


def chances_of(hall, goals, plan):
    """The chances of the plan."""
    marks = goal_marks(hall, goals)
    check_plan(hall, plan)
    return plan_chances(hall, marks, plan)


def picked_door(seen, door, pick):
    """This door where none is better, or none is looked at; else the first one that is to be picked."""
    best = pick(seen)
    if best is None or seen[door] == best:
        return door
    return seen.index(best)


def turned_plan(hall, marks, told, pick):
    """The plan of a tuple (plan, chances), turned to better doors by these chances where there are some."""
    tops = level(told[1])[0]
    turned = []
    for room, door in enumerate(told[0]):
        offered = [] if marks[room] else hall.offers(room)
        turned.append(picked_door([behind_door(offer, tops) for offer in offered], door, pick))
    return turned


def settled(hall, marks, plan, pick):
    """The tuple (plan, chances) of the first plan, from this one on, that is not turned any more."""
    told = None
    coming = plan
    while told is None or coming != told[0]:
        told = (coming, plan_chances(hall, marks, coming))
        coming = turned_plan(hall, marks, told, pick)
    return told


def keeping_plan(hall, marks):
    """A plan that keeps away from all goals wherever a hand can do so for ever."""
    leads = leads_of(hall, marks)
    steps = steps_to(marks, leads, by_each)
    plan = first_plan(hall)
    for room, doors in enumerate(leads):
        if steps[room] is None and len(doors) > 0:
            plan[room] = [meets(door, steps) for door in doors].index(False)
    return plan


def greatest_chances(hall, goals):
    """The tuple (plan, chances) of a plan with the greatest chances."""
    # A door is left for a better one alone, so no room that leads to a goal is turned to stay where it is.
    return settled(hall, goal_marks(hall, goals), first_plan(hall), greatest)


def least_chances(hall, goals):
    """The tuple (plan, chances) of a plan with the least chances."""
    marks = goal_marks(hall, goals)
    # By chances alone a door that stays among rooms for ever looks as good as one that leads from them to a goal,
    # so a hand that can keep away does so from the beginning; all other rooms are left in the end by whatever plan.
    return settled(hall, marks, keeping_plan(hall, marks), least)
