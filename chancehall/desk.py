"""A desk: it keeps a hall and marks of goals, is told rows, and answers each with a text."""

from chancehall.answers import answer_to
from chancehall.errors import NoRow
from chancehall.halls import Hall
from chancehall.ratios import NOUGHT
from chancehall.texts import door_kinds, made_door, values_of
from chancehall.words import number_of

KEEPING = ("share", "room", "door", "shut", "goal", "plain")
# How many words there are in a row with this first word, where that is always the same.
LENGTHS = {
    "share": 2, "room": 2, "shut": 3, "goal": 2, "plain": 2,
    "best": 1, "most": 2, "least": 2, "lots": 1, "bounds": 3, "show": 1,
}


def is_row(words):
    """Whether the first word, the number of words and the sort of a door are those of a row."""
    first = words[0]
    if first == "door":
        return door_kinds(words[2:]) is not None
    if first == "worth":
        return True
    if first == "run":
        return len(words) >= 2
    return first in LENGTHS and len(words) == LENGTHS[first]


def words_of(row):
    """The words of a row; NoRow where a thing of any kind is none."""
    if not isinstance(row, str):
        raise NoRow(None)
    words = row.split(" ")
    if not is_row(words):
        raise NoRow(None)
    return words


def with_door(doors, words):
    """These doors, and one more, as the words from its name on tell."""
    return doors + [made_door(values_of(door_kinds(words), words))]


def without_door(doors, door):
    """These doors, but the one of that number."""
    return doors[:door] + doors[door + 1:]


class Desk:
    """A desk; rows that are refused leave it as it was."""

    def __init__(self):
        self.share = NOUGHT
        self.rooms = []
        self.marks = []

    def hall_now(self):
        """The hall as it stands."""
        return Hall(self.share, self.rooms)

    def say(self, row):
        """The answer to a row."""
        words = words_of(row)
        if words[0] in KEEPING:
            self.keep(words[0], words[1:])
            return "ok"
        return answer_to(words[0], self.hall_now(), self.marks, words[1:])

    def keep(self, first, words):
        """What the row with that first word tells, the words behind it given, is so from now on."""
        if first == "share":
            self.settle(number_of(words[0]), self.rooms)
        elif first == "room":
            self.settle(self.share, self.rooms + [(words[0], [])])
            self.marks = self.marks + [0]
        elif first == "door" or first == "shut":
            self.keep_doors(first, words)
        else:
            self.marks[self.hall_now().place(words[0])] = 1 if first == "goal" else 0

    def keep_doors(self, first, words):
        """The room that the first word names has one door more, or one less."""
        hall = self.hall_now()
        room = hall.place(words[0])
        doors = self.rooms[room][1]
        if first == "door":
            doors = with_door(doors, words[1:])
        else:
            doors = without_door(doors, hall.door_at(room, words[1]))
        self.settle(self.share, self.rooms[:room] + [(words[0], doors)] + self.rooms[room + 1:])

    def settle(self, share, rooms):
        """The hall of this share and these rooms is kept from now on, unless it is refused."""
        # Made ahead of all else, so that nothing is kept of a hall that can't be made.
        Hall(share, rooms)
        self.share = share
        self.rooms = rooms
