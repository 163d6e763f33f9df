"""What is answered to the rows that ask something of a hall.

The words of a row are given from the second one on; there are as many as the row wants.
Marks are 1 for each room that is a goal, 0 for each other one.
"""

from chancehall.alike import splits_of
from chancehall.bounds import bounds_of, check_behind
from chancehall.errors import NoNumber, NoPlan
from chancehall.goals import greatest_chances, least_chances
from chancehall.mending import best_of
from chancehall.runs import run_of
from chancehall.texts import show
from chancehall.words import number_of, number_text
from chancehall.worths import worths_of

NO_DOOR = "-"


def in_order(parts):
    """What is told for each room, or each block."""
    return "; ".join(parts)


def door_word(hall, room, door):
    """The name of the room's door of that number."""
    return NO_DOOR if door is None else hall.offers(room)[door][0]


def best_answer(hall):
    """For each room its name, the best plan's door and its worth."""
    best = best_of(hall)
    told = []
    for room, name in enumerate(hall.names()):
        told.append(" ".join([name, door_word(hall, room, best[0][room]), number_text(best[1][room])]))
    return in_order(told)


def told_door(hall, room, word):
    """The number of the room's door that the word tells; None for a room without doors."""
    closed = len(hall.offers(room)) == 0
    if closed != (word == NO_DOOR):
        raise NoPlan(room)
    return None if closed else hall.door_at(room, word)


def told_plan(hall, words):
    """The plan that the words tell, one for each room."""
    if len(words) != hall.size():
        raise NoPlan(None)
    return [told_door(hall, room, word) for room, word in enumerate(words)]


def worth_answer(hall, words):
    """For each room what the told plan is worth."""
    return in_order([number_text(worth) for worth in worths_of(hall, told_plan(hall, words))])


def chance_answer(hall, marks, words, told_chances):
    """The room's chance to come to a goal, of those that are told with a plan."""
    room = hall.place(words[0])
    goals = [number for number, mark in enumerate(marks) if mark == 1]
    return number_text(told_chances(hall, goals)[1][room])


def lots_answer(hall, marks):
    """For each block of alike rooms their names."""
    lots = {}
    for name, block in zip(hall.names(), splits_of(hall, marks)[-1]):
        lots.setdefault(block, []).append(name)
    return in_order([" ".join(names) for names in lots.values()])


def told_rounds(word):
    """The number of rounds that the word tells."""
    number = number_of(word)
    if number[1] != 1:
        raise NoNumber("rounds are told by a whole number")
    check_behind(number[0])
    return number[0]


def bounds_answer(hall, words):
    """The low and the high of the room behind so many rounds."""
    many = told_rounds(words[0])
    room = hall.place(words[1])
    return " ".join([number_text(bounds[room]) for bounds in bounds_of(hall, many)])


def run_answer(hall, words):
    """The names of the rooms along the run by the best plan, and what is paid."""
    start = hall.place(words[0])
    numbers = [number_of(word) for word in words[1:]]
    run = run_of(hall, best_of(hall)[0], start, numbers)
    names = hall.names()
    told = [names[step[0]] for step in run[0]]
    return " ".join(told + [names[run[2]], number_text(run[1])])


def answer_to(first, hall, marks, words):
    """The answer to the row with that first word."""
    if first == "best":
        return best_answer(hall)
    if first == "worth":
        return worth_answer(hall, words)
    if first == "most":
        return chance_answer(hall, marks, words, greatest_chances)
    if first == "least":
        return chance_answer(hall, marks, words, least_chances)
    if first == "lots":
        return lots_answer(hall, marks)
    if first == "bounds":
        return bounds_answer(hall, words)
    if first == "run":
        return run_answer(hall, words)
    return show(hall)
