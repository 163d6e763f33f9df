"""Rooms that are alike put together, and plans carried over from there."""

from chancehall.alike import card_of, cards_of, splits_of
from chancehall.doors import Door, Mixed
from chancehall.halls import Hall
from chancehall.plans import check_plan


def first_rooms(blocks):
    """The first room of each block."""
    return [room for room, block in enumerate(blocks) if block not in blocks[:room]]


def block_door(name, card, names):
    """A door of that name and card; names are those of the blocks."""
    if len(card[1]) == 0:
        return Door(name, card[0])
    return Mixed(name, card[0], [(names[block], chance) for block, chance in card[1]])


def block_doors(hall, blocks, room, names):
    """The doors of the room, as doors to blocks, each card once."""
    cards = cards_of(hall, blocks, room)
    offered = hall.offers(room)
    first = [door for door, card in enumerate(cards) if card not in cards[:door]]
    return [block_door(offered[door][0], cards[door], names) for door in first]


def joined_hall(hall, blocks):
    """The hall with a room for each block."""
    rooms = first_rooms(blocks)
    names = [hall.names()[room] for room in rooms]
    return Hall(hall.share, [(names[block], block_doors(hall, blocks, room, names))
                             for block, room in enumerate(rooms)])


def put_together(hall, marks):
    """The tuple (other, blocks): the hall with the rooms that are alike put together, and their blocks."""
    blocks = splits_of(hall, marks)[-1]
    return (joined_hall(hall, blocks), blocks)


def carried(hall, marks, plan):
    """The plan of the hall put together, as a plan of the hall."""
    together = put_together(hall, marks)
    other = together[0]
    blocks = together[1]
    check_plan(other, plan)
    # The rooms of that hall are the blocks: its doors have the same cards where each room is a block of its own.
    own = list(range(other.size()))
    told = []
    for room, block in enumerate(blocks):
        cards = cards_of(hall, blocks, room)
        door = plan[block]
        told.append(None if door is None else cards.index(card_of(other, own, block, door)))
    return told
