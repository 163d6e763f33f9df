"""[31] cards of doors, [32] splits of a hall by marks, [34] the parting of two rooms; [12] NoRoom and [2] over them."""

import unittest
from fractions import Fraction

from chancehall.alike import card_of, parting, splits_of
from chancehall.doors import Door, Even, Mixed, Sure, Toss
from chancehall.errors import HallError, NoDoor, NoRoom
from chancehall.halls import Hall
from chancehall.ratios import is_ratio
from chancehall.texts import show
from chancehall.wholes import is_whole

LONG = 10 ** 59 + 7
NOUGHT = (0, 1)
ONE = (1, 1)
HALF = (1, 2)


# A thing with a mind of its own about being asked, to be refused all the same.
class Stubborn:
    def __eq__(self, other):
        raise RuntimeError("not to be compared")

    def __bool__(self):
        raise RuntimeError("not to be asked for its truth")

    def __len__(self):
        raise RuntimeError("not to be measured")


# A thing that says of itself that it is whatever it is held against.
class Flatterer:
    def __eq__(self, other):
        return True

    def __hash__(self):
        return 0


ODD = [True, False, 0.0, 1.0, 0.5, 1j, b"", b"x", "", "0", "x", "None", [], [0], [None], (), (0,), (0, 1), (1, 2, 3),
       {}, {0: 0}, {0}, Fraction(0), Fraction(1), object(), Stubborn(), Flatterer(), list, Hall]


class Numbers:
    """Numbers that are always the same ones, without any order that meets the eye."""

    def __init__(self, seed):
        self.state = seed

    def below(self, many):
        found = 0
        while found < many:
            self.state = (self.state * 6364136223846793005 + 1442695040888963407) % 2 ** 64
            found = (found << 31) + (self.state >> 33) + 1
        return found % many

    def fraction(self, large):
        return Fraction(self.below(2 * large + 1) - large, 1 + self.below(large))


def pair(number):
    return (Fraction(number).numerator, Fraction(number).denominator)


def names_of(many):
    return [chr(97 + room) for room in range(many)]


def some_door(numbers, name, rooms, large):
    """A door of any sort, to any of the rooms."""
    pay = pair(numbers.fraction(large))
    told = [rooms[numbers.below(len(rooms))] for k in range(1 + numbers.below(8))]
    sort = numbers.below(4)
    if sort == 0:
        return Sure(name, pay, told[0])
    if sort == 1:
        return Even(name, pay, told)
    if sort == 2:
        bottom = 1 + numbers.below(large)
        return Toss(name, pay, pair(Fraction(numbers.below(bottom + 1), bottom)), told[0], told[-1])
    parts = [1 + numbers.below(large) for k in told]
    return Mixed(name, pay, [(room, pair(Fraction(part, sum(parts)))) for room, part in zip(told, parts)])


def some_hall(numbers, share, doors, large):
    """A hall whose rooms have so many doors each."""
    rooms = names_of(len(doors))
    return Hall(share, [
        (room, [some_door(numbers, "d" + chr(97 + door), rooms, large) for door in range(many)])
        for room, many in zip(rooms, doors)
    ])


def copied_hall(numbers, share, sorts):
    """A tuple (hall, copies): rooms that are copies of few sorts of rooms, and the sort of each.

    Doors of copies stand in another order, one of them perhaps twice, and lead to other copies of the same sort.
    """
    copies = list(range(sorts)) + [numbers.below(sorts) for k in range(numbers.below(5))]
    names = names_of(len(copies))
    offered = []
    for sort in range(sorts):
        doors = []
        for door in range(numbers.below(4)):
            parts = [1 + numbers.below(3) for k in range(1 + numbers.below(3))]
            ways = [(numbers.below(sorts), Fraction(part, sum(parts))) for part in parts]
            doors.append((pair(numbers.below(2)), ways))
        offered.append(doors)
    rooms = []
    for name, sort in zip(names, copies):
        doors = list(offered[sort])
        if doors:
            doors += [doors[numbers.below(len(doors))]] * numbers.below(2)
            turn = numbers.below(len(doors))
            doors = doors[turn:] + doors[:turn]
        rooms.append((name, [copied_door(numbers, "d" + chr(97 + place), door, names, copies)
                             for place, door in enumerate(doors)]))
    return (Hall(share, rooms), copies)


def copied_door(numbers, name, door, names, copies):
    """A door of that pay and those ways to sorts, each parted between two rooms of the sort."""
    pairs = []
    for sort, chance in door[1]:
        rooms = [room for room, one in zip(names, copies) if one == sort]
        part = chance * Fraction(numbers.below(3), 2)
        for some in [part, chance - part]:
            pairs.append((rooms[numbers.below(len(rooms))], pair(some)))
    return Mixed(name, door[0], pairs)


def some_marks(numbers, many, sorts):
    return [numbers.below(sorts) - 1 for room in range(many)]


def small_halls(seed):
    """Tuples (hall, marks), of halls with copies of rooms and of halls as they come."""
    numbers = Numbers(seed)
    told = []
    for k in range(120):
        hall, copies = copied_hall(numbers, HALF, 1 + numbers.below(4))
        told += [(hall, [0] * hall.size()), (hall, list(copies)), (hall, some_marks(numbers, hall.size(), 2))]
    for doors in [[], [0], [0, 0, 0], [2, 0, 1], [1] * 12, [6] * 12, [0, 1, 2, 1, 0, 1, 2, 1, 0, 1, 2, 1]]:
        for large in [1, 2, LONG]:
            hall = some_hall(numbers, HALF, doors, large)
            told += [(hall, [0] * hall.size()), (hall, some_marks(numbers, hall.size(), 3))]
    return told


def corridor(many):
    """Rooms in a row, each with one door, on to the next one; only that of the last pays, and leads back to it."""
    names = names_of(many)
    rooms = [(name, [Sure("on", NOUGHT, names[room + 1])]) for room, name in enumerate(names[:-1])]
    return Hall(HALF, rooms + [(names[-1], [Sure("stay", ONE, names[-1])])])


def model_card(hall, same, room, door):
    """The pay, and for each room the chance to come to a room of the same block, without any numbers of blocks."""
    name, pay, ways = hall.offers(room)[door]
    return (pay, tuple(sum((Fraction(*chance) for to, chance in ways if same[one][to]), Fraction(0))
                       for one in range(hall.size())))


def model_cards(hall, same, room):
    return {model_card(hall, same, room, door) for door in range(len(hall.offers(room)))}


def model_next(hall, same):
    many = range(hall.size())
    cards = [model_cards(hall, same, room) for room in many]
    return [[same[one][other] and cards[one] == cards[other] for other in many] for one in many]


def numbered(same):
    """The blocks of a list of lists of truths, numbered by their first rooms."""
    first = [row.index(True) for row in same]
    return [sorted(set(first)).index(one) for one in first]


def model_splits(hall, marks):
    told = []
    same = model_by(marks)
    while not told or numbered(same) != told[-1]:
        told.append(numbered(same))
        same = model_next(hall, same)
    return told


def model_by(blocks):
    """The truths of which the blocks, or marks, come: whether two rooms have the same one."""
    return [[one == other for other in blocks] for one in blocks]


class Told(unittest.TestCase):
    def is_refused(self, kind, make):
        with self.assertRaises(HallError) as taken:
            make()
        self.assertIs(type(taken.exception), kind)
        return taken.exception


class Cards(Told):
    HALL = Hall(HALF, [
        ("x", [Mixed("a", (-7, 3), [("w", (1, 6)), ("x", (1, 3)), ("z", (1, 6)), ("y", (1, 3))]),
               Sure("b", (LONG, 2), "z"), Even("c", NOUGHT, ["z", "y", "z", "w"])]),
        ("y", []), ("z", [Toss("a", ONE, NOUGHT, "x", "y")]), ("w", [Toss("a", ONE, (2, 3), "w", "x")]),
    ])

    def is_card(self, blocks, room, door, wanted):
        kept = (list(blocks), show(self.HALL))
        told = card_of(self.HALL, blocks, room, door)
        self.assertEqual(told, wanted)
        self.assertEqual((blocks, show(self.HALL)), kept)
        self.assertEqual([type(told), type(told[1])], [tuple, list])
        for part in told[1]:
            self.assertIs(type(part), tuple)
            self.assertTrue(is_whole(part[0]) and is_ratio(part[1]))

    def test_blocks_of_one_room(self):
        blocks = [0, 1, 2, 3]
        self.is_card(blocks, 0, 0, ((-7, 3), [(0, (1, 3)), (1, (1, 3)), (2, (1, 6)), (3, (1, 6))]))
        self.is_card(blocks, 0, 1, ((LONG, 2), [(2, ONE)]))
        self.is_card(blocks, 0, 2, (NOUGHT, [(1, (1, 4)), (2, HALF), (3, (1, 4))]))
        self.is_card(blocks, 2, 0, (ONE, [(1, ONE)]))
        self.is_card(blocks, 3, 0, (ONE, [(0, (1, 3)), (3, (2, 3))]))

    def test_a_block_of_all(self):
        blocks = [0, 0, 0, 0]
        for room, door, pay in [(0, 0, (-7, 3)), (0, 1, (LONG, 2)), (0, 2, NOUGHT), (2, 0, ONE), (3, 0, ONE)]:
            self.is_card(blocks, room, door, (pay, [(0, ONE)]))

    def test_chances_of_ways_to_one_block_are_added(self):
        self.is_card([0, 1, 0, 1], 0, 0, ((-7, 3), [(0, HALF), (1, HALF)]))
        self.is_card([0, 1, 1, 0], 0, 0, ((-7, 3), [(0, HALF), (1, HALF)]))
        self.is_card([0, 0, 1, 1], 0, 0, ((-7, 3), [(0, (2, 3)), (1, (1, 3))]))
        self.is_card([0, 1, 2, 1], 0, 2, (NOUGHT, [(1, HALF), (2, HALF)]))
        self.is_card([0, 1, 1, 2], 0, 2, (NOUGHT, [(1, (3, 4)), (2, (1, 4))]))
        self.is_card([0, 1, 1, 1], 3, 0, (ONE, [(0, (1, 3)), (1, (2, 3))]))

    def test_parts_rise_by_block_and_not_by_room(self):
        hall = Hall(HALF, [("x", [Even("a", ONE, ["w", "z", "y", "x"])]), ("y", []), ("z", []), ("w", [])])
        self.assertEqual(card_of(hall, [0, 1, 0, 2], 0, 0), (ONE, [(0, HALF), (1, (1, 4)), (2, (1, 4))]))
        names = names_of(12)
        hall = Hall(HALF, [(name, [Even("a", ONE, names[::-1][:8])]) for name in names])
        self.assertEqual(card_of(hall, list(range(12)), 5, 0)[1], [(block, (1, 8)) for block in range(4, 12)])

    def test_doors_without_ways(self):
        hall = Hall(HALF, [("x", [Door("a", (5, 2)), Sure("b", ONE, "x")])])
        self.assertEqual(card_of(hall, [0], 0, 0), ((5, 2), []))
        self.assertEqual(card_of(hall, [0], 0, 1), (ONE, [(0, ONE)]))

    def test_names_of_doors_are_not_looked_at(self):
        hall = Hall(HALF, [("x", [Sure("a", ONE, "x"), Sure("b", ONE, "x"), Even("c", ONE, ["x", "y"])]), ("y", [])])
        self.assertEqual(card_of(hall, [0, 0], 0, 0), card_of(hall, [0, 0], 0, 1))
        self.assertEqual(card_of(hall, [0, 0], 0, 0), card_of(hall, [0, 0], 0, 2))
        self.assertNotEqual(card_of(hall, [0, 1], 0, 0), card_of(hall, [0, 1], 0, 2))

    def test_numbers_of_many_figures(self):
        ways = [("y", (1, LONG)), ("x", (LONG - 4, LONG)), ("z", (3, LONG))]
        hall = Hall(HALF, [("x", [Mixed("a", (1, LONG), ways)]), ("y", []), ("z", [])])
        self.assertEqual(card_of(hall, [0, 1, 1], 0, 0), ((1, LONG), [(0, (LONG - 4, LONG)), (1, (4, LONG))]))

    def test_small_halls(self):
        for hall, marks in small_halls(91):
            for blocks in splits_of(hall, marks):
                same = model_by(blocks)
                for room in range(hall.size()):
                    for door in range(len(hall.offers(room))):
                        pay, chances = model_card(hall, same, room, door)
                        told = {(block, pair(chance)) for block, chance in zip(blocks, chances) if chance > 0}
                        self.assertEqual(card_of(hall, blocks, room, door), (pay, sorted(told)))

    def test_what_is_no_room(self):
        for thing in ODD + [None, 4, 5, -1, LONG, -LONG, "x"]:
            refusal = self.is_refused(NoRoom, lambda: card_of(self.HALL, [0, 1, 2, 3], thing, 0))
            self.assertIs(refusal.room, thing)
            refusal = self.is_refused(NoRoom, lambda: card_of(self.HALL, [0, 1, 2, 3], thing, None))
            self.assertIs(refusal.room, thing)
            refusal = self.is_refused(NoRoom, lambda: card_of(Hall(HALF, []), [], thing, 0))
            self.assertIs(refusal.room, thing)

    def test_what_is_no_door(self):
        for room, many in [(0, 3), (1, 0), (2, 1)]:
            for thing in ODD + [None, many, many + 1, -1, LONG, -LONG, "a"]:
                refusal = self.is_refused(NoDoor, lambda: card_of(self.HALL, [0, 1, 2, 3], room, thing))
                self.assertIs(refusal.door, thing)

    def test_arguments_by_their_names(self):
        told = card_of(hall=self.HALL, blocks=[0, 0, 1, 0], room=0, door=1)
        self.assertEqual(told, ((LONG, 2), [(1, ONE)]))

    def test_lists_told_are_the_askers_own(self):
        blocks = [0, 1, 0, 1]
        wanted = ((-7, 3), [(0, HALF), (1, HALF)])
        one = card_of(self.HALL, blocks, 0, 0)
        other = card_of(self.HALL, blocks, 0, 0)
        other[1][0] = (7, ONE)
        other[1].clear()
        blocks[1] = 0
        blocks.clear()
        self.assertEqual(one, wanted)
        one[1].append((2, ONE))
        self.assertEqual(card_of(self.HALL, [0, 1, 0, 1], 0, 0), wanted)


class Splits(Told):
    def are_splits(self, hall, marks, wanted):
        kept = (list(marks), show(hall))
        told = splits_of(hall, marks)
        self.assertEqual(told, wanted)
        self.assertEqual((marks, show(hall)), kept)
        self.assertIs(type(told), list)
        self.assertTrue(1 <= len(told) <= max(1, hall.size()))
        for blocks in told:
            self.assertIs(type(blocks), list)
            self.assertTrue(all(is_whole(block) for block in blocks))

    def test_no_room(self):
        self.are_splits(Hall(HALF, []), [], [[]])

    def test_one_room(self):
        for doors in [[], [Sure("a", ONE, "x")]]:
            for mark in [0, 7, -3, LONG]:
                self.are_splits(Hall(HALF, [("x", doors)]), [mark], [[0]])

    def test_marks_all_alike(self):
        hall = Hall(HALF, [(name, [Sure("a", ONE, "a")]) for name in names_of(5)])
        for mark in [0, 1, -1, 5, LONG, -LONG]:
            self.are_splits(hall, [mark] * 5, [[0] * 5])

    def test_marks_all_different(self):
        hall = Hall(HALF, [(name, [Sure("a", ONE, "a")]) for name in names_of(5)])
        for marks in [[0, 1, 2, 3, 4], [4, 3, 2, 1, 0], [-1, 1, -2, 2, 0], [LONG, -LONG, LONG + 1, LONG - 1, 0]]:
            self.are_splits(hall, marks, [[0, 1, 2, 3, 4]])

    def test_blocks_are_numbered_by_their_first_rooms(self):
        hall = Hall(HALF, [(name, [Sure("a", ONE, name)]) for name in names_of(6)])
        for marks in [[0, 1, 0, 2, 1, 0], [2, 0, 2, 1, 0, 2], [9, -9, 9, 0, -9, 9], [LONG, -1, LONG, 7, -1, LONG]]:
            self.are_splits(hall, marks, [[0, 1, 0, 2, 1, 0]])

    def test_marks_of_many_figures(self):
        hall = Hall(HALF, [(name, []) for name in names_of(4)])
        self.are_splits(hall, [LONG, LONG + 1, -LONG, LONG], [[0, 1, 2, 0]])
        # These leave the same rest by 2 ** 61 - 1.
        self.are_splits(hall, [5, 5 + 2 ** 61 - 1, 5 + (2 ** 61 - 1) * 10 ** 30, 5], [[0, 1, 2, 0]])
        self.are_splits(hall, [-1, -2, -1, -2], [[0, 1, 0, 1]])

    def test_a_corridor_is_split_once_more_at_each_step(self):
        for many in [1, 2, 3, 7, 12]:
            wanted = [[max(0, room - (many - 1 - step)) for room in range(many)] for step in range(many)]
            self.are_splits(corridor(many), [5] * many, wanted)

    def test_a_corridor_with_marks(self):
        self.are_splits(corridor(5), [1, 1, 0, 1, 1], [[0, 0, 1, 0, 0], [0, 1, 2, 0, 3], [0, 1, 2, 3, 4]])

    def test_rooms_without_doors(self):
        hall = Hall(HALF, [("x", []), ("y", [Sure("a", NOUGHT, "y")]), ("z", []), ("w", [Sure("a", NOUGHT, "z")])])
        self.are_splits(hall, [0, 0, 0, 0], [[0, 0, 0, 0], [0, 1, 0, 1], [0, 1, 0, 2]])
        self.are_splits(hall, [1, 0, 0, 0], [[0, 1, 1, 1], [0, 1, 2, 1], [0, 1, 2, 3]])
        self.are_splits(Hall(HALF, [(name, []) for name in names_of(12)]), [3] * 12, [[0] * 12])

    def test_the_same_cards_in_another_order_or_told_twice(self):
        one = Sure("a", ONE, "x")
        two = Sure("b", (2, 1), "x")
        again = Sure("c", ONE, "y")
        hall = Hall(HALF, [("x", [one, two]), ("y", [two, one]), ("z", [one, two, again]), ("w", [again, two, one]),
                           ("v", [two]), ("u", [one]), ("t", [again])])
        self.are_splits(hall, [0] * 7, [[0] * 7, [0, 0, 0, 0, 1, 2, 2]])

    def test_a_card_more_in_the_one_or_in_the_other(self):
        one = Sure("a", ONE, "x")
        two = Sure("b", (2, 1), "x")
        for rooms in [[("x", [one]), ("y", [one, two])], [("x", [one, two]), ("y", [one])],
                      [("x", [one]), ("y", [])], [("x", []), ("y", [one])], [("x", [one]), ("y", [two])]]:
            self.are_splits(Hall(HALF, rooms), [0, 0], [[0, 0], [0, 1]])

    def test_pays_alone(self):
        hall = Hall(HALF, [(name, [Sure("a", pay, "a")]) for name, pay in zip(
            names_of(6), [ONE, (-1, 1), (1, LONG), ONE, (1, LONG + 1), (1, LONG)])])
        self.are_splits(hall, [0] * 6, [[0] * 6, [0, 1, 2, 0, 3, 2]])

    def test_chances_alone(self):
        hall = Hall(HALF, [
            ("x", []), ("y", [Sure("a", ONE, "y")]), ("z", [Toss("a", ONE, (1, 3), "x", "y")]),
            ("w", [Even("a", ONE, ["y", "x", "y"])]), ("v", [Even("a", ONE, ["y", "x"])]),
            ("u", [Mixed("a", ONE, [("y", (2, 3)), ("x", (1, 3))])]),
        ])
        self.are_splits(hall, [0] * 6, [[0] * 6, [0, 1, 1, 1, 1, 1], [0, 1, 2, 2, 3, 2]])

    def test_rooms_are_compared_by_the_blocks_ahead_alone(self):
        # y and z lead to rooms that are split only in the next one, so they are split behind those.
        hall = Hall(HALF, [("x", [Sure("a", ONE, "x")]), ("y", [Sure("a", ONE, "w")]), ("z", [Sure("a", ONE, "v")]),
                           ("w", [Sure("a", ONE, "u")]), ("v", [Sure("a", ONE, "t")]), ("u", [Sure("a", (2, 1), "x")]),
                           ("t", [Sure("a", (3, 1), "x")])])
        self.are_splits(hall, [0] * 7, [
            [0] * 7, [0, 0, 0, 0, 0, 1, 2], [0, 0, 0, 1, 2, 3, 4], [0, 1, 2, 3, 4, 5, 6]])

    def test_small_halls(self):
        for hall, marks in small_halls(92):
            self.are_splits(hall, marks, model_splits(hall, marks))

    def test_copies_are_alike(self):
        numbers = Numbers(93)
        for k in range(100):
            hall, copies = copied_hall(numbers, HALF, 1 + numbers.below(5))
            for marks in [[0] * hall.size(), copies, [sort % 2 for sort in copies]]:
                last = splits_of(hall, marks)[-1]
                for sort in copies:
                    self.assertEqual(len({block for block, one in zip(last, copies) if one == sort}), 1)

    def test_share_does_not_matter(self):
        numbers = Numbers(94)
        for k in range(20):
            seed = numbers.below(1000)
            told = [splits_of(copied_hall(Numbers(seed), share, 3)[0], copied_hall(Numbers(seed), share, 3)[1])
                    for share in [(0, 1), HALF, (99, 100)]]
            self.assertEqual(told[0], told[1])
            self.assertEqual(told[0], told[2])

    def test_arguments_by_their_names(self):
        self.assertEqual(splits_of(hall=corridor(2), marks=[0, 0]), [[0, 0], [0, 1]])

    def test_lists_told_are_the_askers_own(self):
        hall = corridor(3)
        wanted = [[0, 0, 0], [0, 0, 1], [0, 1, 2]]
        marks = [7, 7, 7]
        one = splits_of(hall, marks)
        other = splits_of(hall, marks)
        self.assertEqual(len({id(part) for part in [marks] + one + other}), 7)
        for part in other:
            part[0] = 9
            part.clear()
        other.clear()
        marks[0] = 8
        marks.clear()
        self.assertEqual(one, wanted)
        for part in one:
            part.append(0)
        self.assertEqual(splits_of(hall, [7, 7, 7]), wanted)

    def test_marks_that_are_blocks_are_told_as_a_list_of_their_own(self):
        marks = [0, 1]
        told = splits_of(corridor(2), marks)
        told[0][0] = 5
        self.assertEqual(marks, [0, 1])


class Partings(Told):
    def is_parting(self, hall, marks, splits, one, other):
        """The parting of the two, held against the splits and the cards."""
        kept = list(marks)
        told = parting(hall, marks, one, other)
        self.assertEqual(marks, kept)
        apart = [number for number, blocks in enumerate(splits) if blocks[one] != blocks[other]]
        if not apart:
            self.assertIsNone(told)
            return
        self.assertIs(type(told), tuple)
        self.assertEqual(len(told), 3)
        number, room, door = told
        self.assertEqual((type(number), number), (int, apart[0]))
        if number == 0:
            self.assertEqual(told, (0, None, None))
            return
        self.assertTrue(is_whole(room) and is_whole(door))
        self.assertIn(room, [one, other])
        same = model_by(splits[number - 1])
        left = other if room == one else one
        self.assertNotIn(model_card(hall, same, room, door), model_cards(hall, same, left))

    def test_a_room_and_itself(self):
        for hall, marks in small_halls(95):
            for room in range(hall.size()):
                self.assertIsNone(parting(hall, marks, room, room))

    def test_rooms_that_are_alike(self):
        hall = Hall(HALF, [("x", [Sure("a", ONE, "x")]), ("y", [Sure("b", ONE, "z")]),
                           ("z", [Even("c", ONE, ["x", "y"])])])
        for one in range(3):
            for other in range(3):
                self.assertIsNone(parting(hall, [4, 4, 4], one, other))

    def test_rooms_parted_by_marks(self):
        hall = Hall(HALF, [("x", [Sure("a", ONE, "x")]), ("y", [Sure("b", ONE, "z")]), ("z", [Sure("c", (2, 1), "z")])])
        for marks in [[1, 0, 0], [0, LONG, LONG], [-1, -2, -2]]:
            for other in [1, 2]:
                self.assertEqual(parting(hall, marks, 0, other), (0, None, None))
                self.assertEqual(parting(hall, marks, other, 0), (0, None, None))

    def test_rooms_parted_by_the_one_door_that_is_odd(self):
        same = [Sure("a", ONE, "x"), Sure("b", (2, 1), "x")]
        odd = Sure("c", (3, 1), "x")
        for doors, place in [(same + [odd], 2), ([odd] + same, 0), ([same[0], odd, same[1]], 1), ([odd], 0)]:
            hall = Hall(HALF, [("x", same if len(doors) > 1 else []), ("y", doors)])
            self.assertEqual(parting(hall, [0, 0], 0, 1), (1, 1, place))
            self.assertEqual(parting(hall, [0, 0], 1, 0), (1, 1, place))

    def test_a_corridor(self):
        for many in [2, 3, 12]:
            hall = corridor(many)
            for one in range(many):
                for other in range(many):
                    told = parting(hall, [0] * many, one, other)
                    if one == other:
                        self.assertIsNone(told)
                    else:
                        number, room, door = told
                        self.assertEqual((number, door), (many - max(one, other), 0))
                        self.assertIn(room, [one, other])

    def test_small_halls(self):
        for hall, marks in small_halls(96):
            before = show(hall)
            splits = model_splits(hall, marks)
            for one in range(hall.size()):
                for other in range(hall.size()) if hall.size() < 8 else [0, 3, 7]:
                    self.is_parting(hall, marks, splits, one, other)
            self.assertEqual(show(hall), before)

    def test_what_is_no_room(self):
        for many in [0, 1, 3]:
            hall = Hall(HALF, [(name, [Sure("a", ONE, "a")]) for name in names_of(many)])
            for thing in ODD + [None, many, many + 1, -1, -many - 1, LONG, -LONG, "a"]:
                calls = [(thing, thing), (thing, -1), (thing, None)]
                if many > 0:
                    calls += [(thing, 0), (0, thing), (many - 1, thing)]
                for one, other in calls:
                    refusal = self.is_refused(NoRoom, lambda: parting(hall, [0] * many, one, other))
                    self.assertIs(refusal.room, thing)

    def test_the_first_of_two_is_told(self):
        hall = corridor(2)
        wrong = [2, -1, None, True, "b", Stubborn(), Flatterer(), [0]]
        for one in wrong:
            for other in wrong:
                self.assertIs(self.is_refused(NoRoom, lambda: parting(hall, [0, 1], one, other)).room, one)

    def test_arguments_by_their_names(self):
        self.assertEqual(parting(hall=corridor(2), marks=[0, 1], one=0, other=1), (0, None, None))

    def test_marks_changed_later_are_of_no_matter(self):
        hall = corridor(3)
        marks = [0, 0, 0]
        told = parting(hall, marks, 1, 2)
        marks[1] = 1
        self.assertEqual(told[0], 1)
        self.assertEqual(parting(hall, marks, 1, 2), (0, None, None))
        self.assertEqual(parting(hall, [0, 0, 0], 1, 2), told)


if __name__ == "__main__":
    unittest.main()
