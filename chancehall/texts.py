"""The texts of halls, read and shown."""

from chancehall.doors import Even, Mixed, Sure, Toss
from chancehall.errors import NoName, NoNumber, NoRow, NoText
from chancehall.halls import Hall, check_share
from chancehall.words import is_word, number_of, number_text

NAME = "name"
NUMBER = "number"


def kinds_behind(sort, many):
    """What the words behind the sort of a door are; None where it is no sort or has not so many."""
    if sort == "sure" and many == 1:
        return [NAME]
    if sort == "toss" and many == 3:
        return [NUMBER, NAME, NAME]
    if sort == "even" and many >= 1:
        return [NAME] * many
    if sort == "mixed" and many >= 2 and many % 2 == 0:
        return [NAME, NUMBER] * (many // 2)
    return None


def door_kinds(words):
    """What the words of a door, from its name on, are; None where no door is told so."""
    if len(words) < 3:
        return None
    behind = kinds_behind(words[2], len(words) - 3)
    if behind is None:
        return None
    return [NAME, NUMBER, NAME] + behind


def value_of(kind, word):
    """The name or the number that a word is; NoName, NoNumber where it is none."""
    if kind == NUMBER:
        return number_of(word)
    if not is_word(word):
        raise NoName("a name is a word")
    return word


def values_of(kinds, words):
    """What the words are, the first one that is wrong refused."""
    return [value_of(kind, word) for kind, word in zip(kinds, words)]


def made_door(values):
    """The door of a name, a pay, a sort, and what is told of that sort."""
    name = values[0]
    pay = values[1]
    sort = values[2]
    behind = values[3:]
    if sort == "sure":
        return Sure(name, pay, behind[0])
    if sort == "toss":
        return Toss(name, pay, behind[0], behind[1], behind[2])
    if sort == "even":
        return Even(name, pay, behind)
    return Mixed(name, pay, list(zip(behind[0::2], behind[1::2])))


def row_values(row, kinds, words):
    """What the words of the row of that number are; NoRow where one of them is wrong."""
    if kinds is None or len(kinds) != len(words):
        raise NoRow(row)
    try:
        return values_of(kinds, words)
    except (NoName, NoNumber):
        raise NoRow(row) from None


def share_told(words):
    """The share that the first row tells."""
    values = row_values(0, [NAME, NUMBER], words)
    if values[0] != "share":
        raise NoRow(0)
    check_share(values[1])
    return values[1]


def take_row(rooms, row, words):
    """One room more, or one door more of the last room, as the row tells."""
    if words[0] == "room":
        values = row_values(row, [NAME, NAME], words)
        rooms.append((values[1], []))
    elif words[0] == "door" and len(rooms) > 0:
        # All words are looked at before the door is made, so that of a door only its chances can be refused.
        values = row_values(row, door_kinds(words[1:]), words[1:])
        rooms[-1][1].append(made_door(values))
    else:
        raise NoRow(row)


def read(text):
    """The hall that a text tells."""
    if not isinstance(text, str):
        raise NoText("a hall is read from a text")
    rows = [line.split(" ") for line in text.split("\n")]
    share = share_told(rows[0])
    rooms = []
    for row, words in enumerate(rows[1:], start=1):
        take_row(rooms, row, words)
    return Hall(share, rooms)


def door_row(names, offer):
    """The row of a door; names are those of the hall's rooms."""
    words = ["door", offer[0], number_text(offer[1])]
    leads = offer[2]
    if len(leads) == 1:
        return " ".join(words + ["sure", names[leads[0][0]]])
    words.append("mixed")
    for room, chance in leads:
        words.extend([names[room], number_text(chance)])
    return " ".join(words)


def show(hall):
    """The text of a hall."""
    rows = ["share " + number_text(hall.share)]
    names = hall.names()
    for room, name in enumerate(names):
        rows.append("room " + name)
        rows.extend([door_row(names, offer) for offer in hall.offers(room)])
    return "\n".join(rows)
