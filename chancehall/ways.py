"""Which rooms lead to goals, told by ways alone: in how few steps, perforce, surely, by fate."""


def goal_marks(hall, goals):
    """For each room whether it is a goal; NoRoom with the first thing among the goals that is no room's number."""
    marks = [False] * hall.size()
    for goal in goals:
        hall.check_room(goal)
        marks[goal] = True
    return marks


def leads_of(hall, marks):
    """For each room a list, for each of its doors, of the rooms behind it; doors of goals are not looked at."""
    told = []
    for room, goal in enumerate(marks):
        offered = [] if goal else hall.offers(room)
        told.append([[behind for behind, chance in offer[2]] for offer in offered])
    return told


def meets(door, steps):
    """Whether a way of the door leads to a room that has its number of steps."""
    return any([steps[room] is not None for room in door])


def by_some(doors, steps):
    """Whether some door of a room has such a way."""
    return any([meets(door, steps) for door in doors])


def by_each(doors, steps):
    """Whether the room has doors, and each one has such a way."""
    return len(doors) > 0 and all([meets(door, steps) for door in doors])


def steps_to(marks, leads, joins):
    """0 in the marked rooms, elsewhere the number of the first round in which the room joins them, or None."""
    steps = [0 if mark else None for mark in marks]
    coming = [room for room, mark in enumerate(marks) if mark]
    many = 0
    while len(coming) > 0:
        many += 1
        # All are asked ahead of the round, so none joins by a room that joins in the same one.
        coming = [room for room, doors in enumerate(leads) if steps[room] is None and joins(doors, steps)]
        for room in coming:
            steps[room] = many
    return steps


def fewest_steps(hall, goals):
    """The fewest steps in which a goal can be come to; None where no ways lead to one."""
    marks = goal_marks(hall, goals)
    return steps_to(marks, leads_of(hall, marks), by_some)


def forced_steps(hall, goals):
    """The steps within which a goal may be come to whatever the hand does; None where it can keep away for ever."""
    marks = goal_marks(hall, goals)
    return steps_to(marks, leads_of(hall, marks), by_each)


def staying(leads, lot):
    """The doors of each room none of whose ways leaves the lot."""
    return [[door for door in doors if all([lot[room] for room in door])] for doors in leads]


def sure_rooms(hall, goals):
    """For each room whether a goal can be come to surely."""
    marks = goal_marks(hall, goals)
    leads = leads_of(hall, marks)
    lot = None
    kept = [True] * hall.size()
    # A lot that keeps its rooms is the greatest: what was dropped on the way is in no such lot.
    while kept != lot:
        lot = kept
        kept = [step is not None for step in steps_to(marks, staying(leads, lot), by_some)]
    return lot


def fated_rooms(hall, goals):
    """For each room whether a goal is come to whatever the hand does."""
    marks = goal_marks(hall, goals)
    leads = leads_of(hall, marks)
    free = [step is None for step in steps_to(marks, leads, by_each)]
    return [step is None for step in steps_to(free, leads, by_some)]
