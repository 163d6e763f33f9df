"""Halls: a share, and rooms with their doors, both by their numbers."""

from chancehall.errors import NoDoor, NoName, NoRoom, NoShare
from chancehall.ratios import NOUGHT, ONE, is_ratio, under
from chancehall.wholes import is_whole
from chancehall.words import is_word


def check_share(share):
    """A share is a fraction from nought to below 1."""
    if not is_ratio(share) or under(share, NOUGHT) or not under(share, ONE):
        raise NoShare("a share is a fraction from nought to below 1")


def numbers_of(rooms):
    """The dict from the rooms' names to their numbers."""
    numbers = {}
    for room in rooms:
        name = room[0]
        if not is_word(name) or name in numbers:
            raise NoName("the name of a room is a word that no room ahead has")
        numbers[name] = len(numbers)
    return numbers


def numbered_ways(door, numbers):
    """The ways of a door, with numbers of rooms in the place of their names."""
    numbered = []
    for name, chance in door.ways():
        if name not in numbers:
            raise NoRoom(name)
        numbered.append((numbers[name], chance))
    return numbered


def offers_of(doors, numbers):
    """A tuple (name, pay, ways) for each door of a room."""
    taken = {}
    told = []
    for door in doors:
        if door.name in taken:
            raise NoName("the name of a door is one that no door ahead of it in the room has")
        taken[door.name] = True
        told.append((door.name, door.pay, numbered_ways(door, numbers)))
    return told


class Hall:
    """A hall; what it was made of may be changed later and the hall stays as it is."""

    def __init__(self, share, rooms):
        check_share(share)
        self.share = share
        self.numbers = numbers_of(rooms)
        self.offered = [offers_of(room[1], self.numbers) for room in rooms]

    def size(self):
        """The number of rooms."""
        return len(self.numbers)

    def names(self):
        """The names of the rooms in their order."""
        return list(self.numbers)

    def place(self, name):
        """The number of the room of that name."""
        # What is no word may be a thing that can't be looked up at all.
        if not is_word(name) or name not in self.numbers:
            raise NoRoom(name)
        return self.numbers[name]

    def check_room(self, room):
        """NoRoom where a thing of any kind is no room's number."""
        if not is_whole(room) or not 0 <= room < self.size():
            raise NoRoom(room)

    def door_at(self, room, name):
        """The number of the room's door of that name."""
        self.check_room(room)
        called = [offer[0] for offer in self.offered[room]]
        if not is_word(name) or name not in called:
            raise NoDoor(name)
        return called.index(name)

    def offers(self, room):
        """A tuple (name, pay, ways) for each door of the room."""
        self.check_room(room)
        return [(name, pay, list(numbered)) for name, pay, numbered in self.offered[room]]
