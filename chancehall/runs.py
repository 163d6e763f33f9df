"""Runs: by a plan from room to room, along numbers that stand for the chances."""

from chancehall.levels import level
from chancehall.plans import check_plan
from chancehall.ratios import NOUGHT, parted, plus, ratio, under
from chancehall.worths import chosen_doors


def edges_of(offer):
    """For each way of a door its room, and the sum of the chances up to it and with it."""
    edges = []
    reached = NOUGHT
    for room, chance in offer[2]:
        reached = plus(reached, chance)
        edges.append((room, reached))
    return edges


def room_behind(edges, number):
    """The room to which the number leads."""
    rest = parted(number)[1]
    # The last sum is 1 and a rest is below it, so there is always such a way.
    return [room for room, reached in edges if under(rest, reached)][0]


def paid_along(share, pays):
    """The sum of the pays, the first one times 1, each next one times the share once more."""
    leveled = level(pays)
    top = 0
    bottom = 1
    # From the last pay to the first in whole numbers alone: the sum is brought to lowest terms once, not at each step.
    for pay in reversed(leveled[0]):
        bottom = bottom * share[1]
        top = pay * bottom + top * share[0]
    return ratio(top, bottom * leveled[1])


def run_of(hall, plan, start, numbers):
    """The tuple (steps, paid, room) of the run by the plan from the room along the numbers."""
    check_plan(hall, plan)
    hall.check_room(start)
    chosen = chosen_doors(hall, plan)
    edges = [None if offer is None else edges_of(offer) for offer in chosen]
    steps = []
    room = start
    for number in numbers:
        if chosen[room] is None:
            break
        steps.append((room, plan[room], chosen[room][1]))
        room = room_behind(edges[room], number)
    return (steps, paid_along(hall.share, [step[2] for step in steps]), room)
