"""Which rooms are alike: blocks of rooms, split by the cards of their doors."""

from chancehall.errors import NoDoor
from chancehall.levels import total
from chancehall.wholes import is_whole


def offer_card(offer, blocks):
    """The card of a door, as the hall offers it."""
    chances = {}
    for room, chance in offer[2]:
        chances.setdefault(blocks[room], []).append(chance)
    return (offer[1], [(block, total(chances[block])) for block in sorted(chances)])


def cards_of(hall, blocks, room):
    """The cards of the room's doors, in their order."""
    return [offer_card(offer, blocks) for offer in hall.offers(room)]


def card_of(hall, blocks, room, door):
    """The card of a door by the blocks."""
    offered = hall.offers(room)
    if not is_whole(door) or not 0 <= door < len(offered):
        raise NoDoor(door)
    return offer_card(offered[door], blocks)


def blocks_of(features):
    """The blocks of rooms whose features are equal."""
    numbers = {}
    blocks = []
    for feature in features:
        if feature not in numbers:
            numbers[feature] = len(numbers)
        blocks.append(numbers[feature])
    return blocks


def next_split(hall, blocks):
    """The blocks of rooms that are in one block, and whose doors have the same cards."""
    features = []
    for room, block in enumerate(blocks):
        cards = [(pay, tuple(parts)) for pay, parts in cards_of(hall, blocks, room)]
        # Cards in another order, or told twice, are the same cards.
        features.append((block, tuple(sorted(set(cards)))))
    return blocks_of(features)


def splits_of(hall, marks):
    """The splits of the hall by the marks."""
    told = []
    coming = blocks_of(marks)
    while len(told) == 0 or coming != told[-1]:
        told.append(coming)
        coming = next_split(hall, coming)
    return told


def odd_door(hall, blocks, one, other):
    """The first door of the one room whose card no door of the other has; None where there is none."""
    cards = cards_of(hall, blocks, other)
    for door, card in enumerate(cards_of(hall, blocks, one)):
        if card not in cards:
            return door
    return None


def parting(hall, marks, one, other):
    """None where the two rooms are alike, else the tuple (number, room, door) that parts them."""
    hall.check_room(one)
    hall.check_room(other)
    splits = splits_of(hall, marks)
    parted = [blocks[one] != blocks[other] for blocks in splits]
    if True not in parted:
        return None
    number = parted.index(True)
    if number == 0:
        return (0, None, None)
    door = odd_door(hall, splits[number - 1], one, other)
    if door is None:
        return (number, other, odd_door(hall, splits[number - 1], other, one))
    return (number, one, door)
