"""Doors: what they are called, what they pay, and with which chances they lead to rooms."""

from chancehall.errors import NoChance, NoName, NoNumber
from chancehall.levels import total
from chancehall.ratios import NOUGHT, ONE, is_ratio, minus, plus, under
from chancehall.words import is_word


def check_head(name, pay):
    """What is refused first of every door."""
    if not is_word(name):
        raise NoName("the name of a door is a word")
    if not is_ratio(pay):
        raise NoNumber("the pay of a door is a fraction")


def check_room_name(room):
    """A door leads to rooms told by words."""
    if not is_word(room):
        raise NoName("the name of a room is a word")


def check_chance(chance):
    """A chance is a fraction from nought to 1."""
    if not is_ratio(chance) or under(chance, NOUGHT) or under(ONE, chance):
        raise NoChance("a chance is a fraction from nought to 1")


def check_pairs(pairs):
    """Pairs (room, chance), one by one; then all their chances."""
    for room, chance in pairs:
        check_room_name(room)
        check_chance(chance)
    if total([pair[1] for pair in pairs]) != ONE:
        raise NoChance("the chances of a door come to 1")


def joined_ways(pairs):
    """Each room once, where it is told first, with all its chances; those without chance left out."""
    chances = {}
    for room, chance in pairs:
        chances[room] = plus(chances.get(room, NOUGHT), chance)
    return [(room, chances[room]) for room in chances if chances[room] != NOUGHT]


class Door:
    """A door of any sort; one that is of no sort leads nowhere."""

    def __init__(self, name, pay):
        check_head(name, pay)
        self.name = name
        self.pay = pay
        self.leads = []

    def ways(self):
        """The list of tuples (room, chance), each chance above nought."""
        return list(self.leads)

    def chance_to(self, room):
        """The chance with which the door leads to the room of that name."""
        for name, chance in self.leads:
            if name == room:
                return chance
        return NOUGHT


class Sure(Door):
    """A door that leads to one room."""

    def __init__(self, name, pay, room):
        Door.__init__(self, name, pay)
        check_room_name(room)
        self.leads = [(room, ONE)]


class Mixed(Door):
    """A door that leads to rooms by chances, told as pairs (room, chance)."""

    def __init__(self, name, pay, pairs):
        Door.__init__(self, name, pay)
        check_pairs(pairs)
        self.leads = joined_ways(pairs)


class Toss(Mixed):
    """A door that leads to a room by a chance, else to another one."""

    def __init__(self, name, pay, chance, room, other):
        # Without the chance there are no pairs, yet name and pay are refused ahead of it.
        check_head(name, pay)
        check_chance(chance)
        Mixed.__init__(self, name, pay, [(room, chance), (other, minus(ONE, chance))])


class Even(Mixed):
    """A door that leads to each of its rooms by the same chance, as often as it is told."""

    def __init__(self, name, pay, rooms):
        # Of no room the chances come to nought, so a mixed door refuses that as an even one has to.
        Mixed.__init__(self, name, pay, [(room, (1, len(rooms))) for room in rooms])
