"""[33] rooms that are alike put together, and plans carried over; [18] NoPlan and [2] over them."""

import copy
import itertools
import unittest
from fractions import Fraction

from chancehall.alike import splits_of
from chancehall.doors import Door, Even, Mixed, Sure, Toss
from chancehall.errors import HallError, NoPlan
from chancehall.goals import chances_of, greatest_chances, least_chances
from chancehall.halls import Hall
from chancehall.lots import carried, put_together
from chancehall.mending import best_of
from chancehall.plans import check_plan, first_plan
from chancehall.texts import read, show
from chancehall.worths import worths_of

LONG = 10 ** 59 + 7
NOUGHT = (0, 1)
ONE = (1, 1)
HALF = (1, 2)
SHARES = [(0, 1), (1, 2), (2, 3), (99, 100)]


# A thing with a mind of its own about being asked, to be refused all the same.
class Stubborn:
    def __eq__(self, other):
        raise RuntimeError("not to be compared")

    def __bool__(self):
        raise RuntimeError("not to be asked for its truth")

    def __len__(self):
        raise RuntimeError("not to be measured")


# A thing that says of itself that it is whatever it is held against.
class Flatterer:
    def __eq__(self, other):
        return True

    def __hash__(self):
        return 0


ODD = [True, False, 0.0, 1.0, 0.5, 1j, b"", b"x", "", "0", "x", "None", [], [0], [None], (), (0,), (0, 1), (1, 2, 3),
       {}, {0: 0}, {0}, Fraction(0), Fraction(1), object(), Stubborn(), Flatterer(), list, Hall]
NO_LISTS = [thing for thing in ODD if not isinstance(thing, list)] + [
    None, 0, 1, 3, (0, None, 0), {0: 0, 1: None, 2: 0}, range(3), "012"]


class Numbers:
    """Numbers that are always the same ones, without any order that meets the eye."""

    def __init__(self, seed):
        self.state = seed

    def below(self, many):
        found = 0
        while found < many:
            self.state = (self.state * 6364136223846793005 + 1442695040888963407) % 2 ** 64
            found = (found << 31) + (self.state >> 33) + 1
        return found % many

    def fraction(self, large):
        return Fraction(self.below(2 * large + 1) - large, 1 + self.below(large))


def pair(number):
    return (Fraction(number).numerator, Fraction(number).denominator)


def names_of(many):
    return [chr(97 + room) for room in range(many)]


def some_door(numbers, name, rooms, large):
    """A door of any sort, to any of the rooms."""
    pay = pair(numbers.fraction(large))
    told = [rooms[numbers.below(len(rooms))] for k in range(1 + numbers.below(8))]
    sort = numbers.below(4)
    if sort == 0:
        return Sure(name, pay, told[0])
    if sort == 1:
        return Even(name, pay, told)
    if sort == 2:
        bottom = 1 + numbers.below(large)
        return Toss(name, pay, pair(Fraction(numbers.below(bottom + 1), bottom)), told[0], told[-1])
    parts = [1 + numbers.below(large) for k in told]
    return Mixed(name, pay, [(room, pair(Fraction(part, sum(parts)))) for room, part in zip(told, parts)])


def some_hall(numbers, share, doors, large):
    """A hall whose rooms have so many doors each."""
    rooms = names_of(len(doors))
    return Hall(share, [
        (room, [some_door(numbers, "d" + chr(97 + door), rooms, large) for door in range(many)])
        for room, many in zip(rooms, doors)
    ])


def all_plans(hall):
    doors = [len(hall.offers(room)) for room in range(hall.size())]
    return [list(plan) for plan in itertools.product(*[range(many) if many else [None] for many in doors])]


def copied_hall(numbers, share, sorts):
    """A tuple (hall, copies): rooms that are copies of few sorts of rooms, and the sort of each.

    Doors of copies stand in another order, one of them perhaps twice, and lead to other copies of the same sort.
    """
    copies = list(range(sorts)) + [numbers.below(sorts) for k in range(numbers.below(5))]
    names = names_of(len(copies))
    offered = []
    for sort in range(sorts):
        doors = []
        for door in range(numbers.below(4)):
            parts = [1 + numbers.below(3) for k in range(1 + numbers.below(3))]
            ways = [(numbers.below(sorts), Fraction(part, sum(parts))) for part in parts]
            doors.append((pair(numbers.below(2)), ways))
        offered.append(doors)
    rooms = []
    for name, sort in zip(names, copies):
        doors = list(offered[sort])
        if doors:
            doors += [doors[numbers.below(len(doors))]] * numbers.below(2)
            turn = numbers.below(len(doors))
            doors = doors[turn:] + doors[:turn]
        rooms.append((name, [copied_door(numbers, "d" + chr(97 + place), door, names, copies)
                             for place, door in enumerate(doors)]))
    return (Hall(share, rooms), copies)


def copied_door(numbers, name, door, names, copies):
    """A door of that pay and those ways to sorts, each parted between two rooms of the sort."""
    pairs = []
    for sort, chance in door[1]:
        rooms = [room for room, one in zip(names, copies) if one == sort]
        part = chance * Fraction(numbers.below(3), 2)
        for some in [part, chance - part]:
            pairs.append((rooms[numbers.below(len(rooms))], pair(some)))
    return Mixed(name, door[0], pairs)


def some_marks(numbers, many, sorts):
    return [numbers.below(sorts) - 1 for room in range(many)]


def small_halls(seed):
    """Tuples (hall, marks), of halls with copies of rooms and of halls as they come."""
    numbers = Numbers(seed)
    told = []
    for k in range(60):
        hall, copies = copied_hall(numbers, SHARES[k % 4], 1 + numbers.below(4))
        told += [(hall, [0] * hall.size()), (hall, list(copies)), (hall, some_marks(numbers, hall.size(), 2))]
    for doors in [[], [0], [0, 0, 0], [2, 0, 1], [3, 3], [1] * 12, [0, 1, 2, 1, 0, 1]]:
        for large in [1, 2, LONG]:
            hall = some_hall(numbers, HALF, doors, large)
            told += [(hall, [0] * hall.size()), (hall, some_marks(numbers, hall.size(), 3))]
    return told


def some_plans(hall):
    """Some of the plans of a hall, or all where they are few."""
    doors = [len(hall.offers(room)) for room in range(hall.size())]
    many = 1
    for one in doors:
        many *= max(one, 1)
    if many <= 30:
        return all_plans(hall)
    return [[(room + turn) % one if one else None for room, one in enumerate(doors)] for turn in range(4)]


def model_card(hall, blocks, room, door):
    """The card of a door: its pay, and tuples (block, chance), rising."""
    name, pay, ways = hall.offers(room)[door]
    chances = {}
    for to, chance in ways:
        chances[blocks[to]] = chances.get(blocks[to], 0) + Fraction(*chance)
    return (pay, [(block, pair(chances[block])) for block in sorted(chances)])


def model_cards(hall, blocks, room):
    return [model_card(hall, blocks, room, door) for door in range(len(hall.offers(room)))]


def model_offers(hall, blocks, room):
    """What a block offers, of which this is the first room: each card once, by its first door."""
    told = []
    cards = model_cards(hall, blocks, room)
    for door, card in enumerate(cards):
        if card not in cards[:door]:
            told.append((hall.offers(room)[door][0], card[0], card[1]))
    return told


TWINS = "\n".join([
    "share 1/2", "room p", "door low 1 even x y", "door also 1 toss 1/3 y x", "door high 2 sure z", "room x",
    "door off 0 sure p", "door on 3 sure z", "room z", "room y", "door on 3 toss 1/4 z w", "door off 0 even p q",
    "room w", "room q", "door high 2 even w z", "door low 1 mixed p 0 x 1", "door higher 2 sure w",
])


class Told(unittest.TestCase):
    def is_refused(self, kind, make):
        with self.assertRaises(HallError) as taken:
            make()
        self.assertIs(type(taken.exception), kind)
        return taken.exception

    def no_plan(self, make, room):
        found = self.is_refused(NoPlan, make).room
        self.assertEqual((type(found), found), (type(room), room))

    def is_together(self, hall, marks):
        """The hall put together, held against the splits and the cards."""
        kept = (list(marks), show(hall))
        told = put_together(hall, marks)
        self.assertEqual((marks, show(hall)), kept)
        self.assertIs(type(told), tuple)
        self.assertEqual([type(part) for part in told], [Hall, list])
        other, blocks = told
        self.assertEqual(blocks, splits_of(hall, marks)[-1])
        first = [blocks.index(block) for block in range(len(set(blocks)))]
        self.assertEqual(other.share, hall.share)
        self.assertEqual(other.names(), [hall.names()[room] for room in first])
        self.assertEqual([other.offers(block) for block in range(other.size())],
                         [model_offers(hall, blocks, room) for room in first])
        return told

    def is_carried(self, hall, marks, plan):
        """The plan carried over, held against the cards."""
        other, blocks = put_together(hall, marks)
        kept = (list(marks), list(plan), show(hall))
        told = carried(hall, marks, plan)
        self.assertEqual((marks, plan, show(hall)), kept)
        self.assertIs(type(told), list)
        self.assertIs(check_plan(hall, told), True)
        own = list(range(other.size()))
        for room, block in enumerate(blocks):
            if plan[block] is None:
                self.assertIsNone(told[room])
            else:
                cards = model_cards(hall, blocks, room)
                self.assertEqual(told[room], cards.index(model_card(other, own, block, plan[block])))
        return told


class Together(Told):
    def test_no_room(self):
        for share in SHARES:
            other, blocks = self.is_together(Hall(share, []), [])
            self.assertEqual((other.share, other.size(), blocks), (share, 0, []))

    def test_one_room(self):
        for doors in [[], [Sure("a", ONE, "x")], [Sure("a", ONE, "x"), Sure("b", ONE, "x"), Sure("c", NOUGHT, "x")]]:
            for mark in [0, -7, LONG]:
                self.is_together(Hall(HALF, [("x", doors)]), [mark])

    def test_rooms_without_doors(self):
        hall = Hall(HALF, [("x", []), ("y", []), ("z", [])])
        self.assertEqual(show(put_together(hall, [0, 0, 0])[0]), "share 1/2\nroom x")
        self.assertEqual(put_together(hall, [0, 0, 0])[1], [0, 0, 0])
        self.assertEqual(show(put_together(hall, [1, 0, 1])[0]), "share 1/2\nroom x\nroom y")

    def test_two_of_each(self):
        other, blocks = self.is_together(read(TWINS), [0] * 6)
        self.assertEqual(blocks, [0, 1, 2, 1, 2, 0])
        self.assertEqual(show(other), "\n".join([
            "share 1/2", "room p", "door low 1 sure x", "door high 2 sure z", "room x", "door off 0 sure p",
            "door on 3 sure z", "room z"]))

    def test_two_of_each_kept_apart_by_marks(self):
        # With z apart from w, their doors part p from q, and x from y.
        other, blocks = self.is_together(read(TWINS), [0, 0, 1, 0, 0, 0])
        self.assertEqual(blocks, [0, 1, 2, 3, 4, 5])
        self.assertEqual(other.names(), ["p", "x", "z", "y", "w", "q"])

    def test_each_card_once_though_no_rooms_are_alike(self):
        hall = Hall(HALF, [("x", [Even("a", ONE, ["x", "y"]), Sure("b", ONE, "x"), Toss("c", ONE, HALF, "y", "x"),
                                  Mixed("d", ONE, [("y", NOUGHT), ("x", ONE)]), Sure("e", NOUGHT, "x")]), ("y", [])])
        other, blocks = self.is_together(hall, [0, 0])
        self.assertEqual(blocks, [0, 1])
        self.assertEqual(other.offers(0), [("a", ONE, [(0, HALF), (1, HALF)]), ("b", ONE, [(0, ONE)]),
                                           ("e", NOUGHT, [(0, ONE)])])

    def test_ways_stand_in_the_order_of_blocks(self):
        hall = Hall(HALF, [("x", [Even("a", ONE, ["w", "z", "y", "x", "w"])]), ("y", []), ("z", []),
                           ("w", [Sure("a", ONE, "w")])])
        other, blocks = self.is_together(hall, [0, 0, 0, 0])
        self.assertEqual(blocks, [0, 1, 1, 2])
        self.assertEqual(other.offers(0), [("a", ONE, [(0, (1, 5)), (1, (2, 5)), (2, (2, 5))])])

    def test_doors_without_ways(self):
        hall = Hall(HALF, [("x", [Door("a", ONE), Door("b", ONE)]), ("y", [Door("c", ONE)])])
        other, blocks = put_together(hall, [0, 0])
        self.assertEqual((blocks, other.offers(0)), ([0, 0], [("a", ONE, [])]))

    def test_the_share_is_the_same(self):
        for share in SHARES:
            hall = Hall(share, [("x", [Sure("a", ONE, "y")]), ("y", [Sure("a", ONE, "x")])])
            other, blocks = self.is_together(hall, [5, 5])
            self.assertEqual((other.share, other.names(), blocks), (share, ["x"], [0, 0]))

    def test_small_halls(self):
        for hall, marks in small_halls(101):
            self.is_together(hall, marks)

    def test_put_together_again_it_stays_as_it_is(self):
        for hall, marks in small_halls(102):
            other, blocks = put_together(hall, marks)
            kept = [marks[blocks.index(block)] for block in range(other.size())]
            again, own = put_together(other, kept)
            self.assertEqual((show(again), own), (show(other), list(range(other.size()))))

    def test_the_best_worths_are_those_of_the_blocks(self):
        for hall, marks in small_halls(103):
            other, blocks = put_together(hall, marks)
            best = best_of(other)[1]
            self.assertEqual(best_of(hall)[1], [best[block] for block in blocks])

    def test_chances_are_those_of_the_blocks_where_marks_keep_goals_apart(self):
        numbers = Numbers(104)
        for hall, marks in small_halls(105):
            goals = [room for room in range(hall.size()) if numbers.below(3) == 0]
            kept = [2 * mark + (room in goals) for room, mark in enumerate(marks)]
            other, blocks = put_together(hall, kept)
            ends = [blocks[room] for room in goals]
            for ask in [greatest_chances, least_chances]:
                told = ask(other, ends)[1]
                self.assertEqual(ask(hall, goals)[1], [told[block] for block in blocks])

    def test_as_many_rooms_and_doors_as_they_come(self):
        numbers = Numbers(106)
        for large in [1, 3, LONG]:
            hall = some_hall(numbers, (99, 100), [6] * 12, large)
            for marks in [[0] * 12, list(range(12)), [room % 2 for room in range(12)]]:
                self.is_together(hall, marks)
        names = names_of(12)
        hall = Hall(HALF, [(name, [Even("d" + door, ONE, names[:8]) for door in "abcdef"]) for name in names])
        other, blocks = self.is_together(hall, [-LONG] * 12)
        self.assertEqual((show(other), blocks), ("share 1/2\nroom a\ndoor da 1 sure a", [0] * 12))

    def test_arguments_by_their_names(self):
        other, blocks = put_together(hall=read(TWINS), marks=[0] * 6)
        self.assertEqual((other.names(), blocks), (["p", "x", "z"], [0, 1, 2, 1, 2, 0]))

    def test_what_is_told_is_the_askers_own(self):
        hall = read(TWINS)
        marks = [0] * 6
        one, blocks = put_together(hall, marks)
        text = show(one)
        other, more = put_together(hall, marks)
        more[0] = 7
        more.clear()
        other.names().clear()
        other.offers(0)[0][2].clear()
        other.offers(0).clear()
        marks[2] = 1
        marks.clear()
        self.assertEqual((show(one), show(other), blocks), (text, text, [0, 1, 2, 1, 2, 0]))
        blocks.append(3)
        again = put_together(hall, [0] * 6)
        self.assertEqual((show(again[0]), again[1]), (text, [0, 1, 2, 1, 2, 0]))


class Carried(Told):
    def test_no_room(self):
        self.assertEqual(carried(Hall(HALF, []), [], []), [])

    def test_rooms_without_doors(self):
        hall = Hall(HALF, [("x", []), ("y", []), ("z", [])])
        self.assertEqual(carried(hall, [0, 0, 0], [None]), [None] * 3)
        self.assertEqual(carried(hall, [0, 1, 0], [None, None]), [None] * 3)

    def test_two_of_each(self):
        hall = read(TWINS)
        for plan, wanted in [([0, 0, None], [0, 0, None, 1, None, 1]), ([1, 0, None], [2, 0, None, 1, None, 0]),
                             ([0, 1, None], [0, 1, None, 0, None, 1]), ([1, 1, None], [2, 1, None, 0, None, 0])]:
            self.assertEqual(carried(hall, [0] * 6, plan), wanted)
            self.is_carried(hall, [0] * 6, plan)

    def test_the_first_door_of_that_card_is_taken(self):
        hall = Hall(HALF, [("x", [Sure("a", ONE, "x"), Sure("b", NOUGHT, "y"), Sure("c", ONE, "y")]),
                           ("y", [Sure("a", NOUGHT, "x"), Sure("b", NOUGHT, "y"), Sure("c", ONE, "y"),
                                  Sure("d", ONE, "x")])])
        self.assertEqual(show(put_together(hall, [0, 0])[0]), "share 1/2\nroom x\ndoor a 1 sure x\ndoor b 0 sure x")
        self.assertEqual(carried(hall, [0, 0], [0]), [0, 2])
        self.assertEqual(carried(hall, [0, 0], [1]), [1, 0])

    def test_doors_behind_one_that_is_told_twice(self):
        # Numbers of doors in the hall put together are others than in the hall.
        hall = Hall(HALF, [("x", [Sure("a", ONE, "x"), Sure("b", ONE, "x"), Sure("c", (2, 1), "x"),
                                  Sure("d", ONE, "x"), Sure("e", (3, 1), "x")])])
        for door, wanted in enumerate([0, 2, 4]):
            self.assertEqual(carried(hall, [0], [door]), [wanted])

    def test_doors_without_ways(self):
        hall = Hall(HALF, [("x", [Door("a", ONE), Door("b", NOUGHT)]), ("y", [Door("c", NOUGHT), Door("d", ONE)])])
        self.assertEqual(carried(hall, [0, 0], [0]), [0, 1])

    def test_it_is_worth_what_it_is_worth_in_its_block(self):
        for hall, marks in small_halls(107):
            other, blocks = put_together(hall, marks)
            for plan in some_plans(other):
                worths = worths_of(other, plan)
                told = self.is_carried(hall, marks, plan)
                self.assertEqual(worths_of(hall, told), [worths[block] for block in blocks])

    def test_it_has_the_chances_of_its_block_where_marks_keep_goals_apart(self):
        numbers = Numbers(108)
        for hall, marks in small_halls(109):
            goals = [room for room in range(hall.size()) if numbers.below(3) == 0]
            kept = [2 * mark + (room in goals) for room, mark in enumerate(marks)]
            other, blocks = put_together(hall, kept)
            ends = [blocks[room] for room in goals]
            for plan in some_plans(other)[:8]:
                chances = chances_of(other, ends, plan)
                told = chances_of(hall, goals, carried(hall, kept, plan))
                self.assertEqual(told, [chances[block] for block in blocks])

    def test_the_best_plan_is_carried_over_as_a_best_one(self):
        for hall, marks in small_halls(110):
            other = put_together(hall, marks)[0]
            self.assertEqual(worths_of(hall, carried(hall, marks, best_of(other)[0])), best_of(hall)[1])

    def test_as_many_rooms_and_doors_as_they_come(self):
        numbers = Numbers(111)
        for large in [1, 3, LONG]:
            hall = some_hall(numbers, (99, 100), [6] * 12, large)
            for marks in [[0] * 12, list(range(12))]:
                other = put_together(hall, marks)[0]
                for plan in some_plans(other)[:3]:
                    self.is_carried(hall, marks, plan)

    def test_what_is_no_plan_of_the_hall_put_together(self):
        hall = read(TWINS)
        marks = [0] * 6
        for thing in NO_LISTS:
            self.no_plan(lambda: carried(hall, marks, thing), None)
        # Also a plan of the hall itself is none.
        for plan in [[], [0], [0, 0], [0, 0, None, None], first_plan(hall), [Stubborn()]]:
            self.no_plan(lambda: carried(hall, marks, plan), None)
        for room, right in enumerate([[0, 1], [0, 1], [None]]):
            for thing in ODD + [None, -1, 0, 1, 2, LONG, -LONG]:
                if type(thing) not in (int, type(None)) or thing not in right:
                    plan = [1, 1, None]
                    plan[room] = thing
                    self.no_plan(lambda: carried(hall, marks, plan), room)
        self.no_plan(lambda: carried(hall, marks, [2, 2, 0]), 0)
        self.no_plan(lambda: carried(hall, marks, [1, 2, 0]), 1)
        for thing in [[2, 0, None], [[0], 0, None], [0, None], {0: [0]}, [0, [None], {}]]:
            kept = copy.deepcopy(thing)
            self.is_refused(NoPlan, lambda: carried(hall, marks, thing))
            self.assertEqual(thing, kept)

    def test_what_is_no_plan_of_a_hall_without_rooms(self):
        for thing in NO_LISTS + [[None], [0]]:
            self.no_plan(lambda: carried(Hall(HALF, []), [], thing), None)

    def test_arguments_by_their_names(self):
        self.assertEqual(carried(hall=read(TWINS), marks=[0] * 6, plan=[1, 0, None]), [2, 0, None, 1, None, 0])

    def test_lists_told_are_the_askers_own(self):
        hall = read(TWINS)
        wanted = [2, 0, None, 1, None, 0]
        marks = [0] * 6
        plan = [1, 0, None]
        one = carried(hall, marks, plan)
        other = carried(hall, marks, plan)
        other[0] = 9
        other.clear()
        marks[2] = 1
        marks.clear()
        plan[0] = 0
        plan.clear()
        self.assertEqual(one, wanted)
        one.append(0)
        self.assertEqual(carried(hall, [0] * 6, [1, 0, None]), wanted)

    def test_a_plan_carried_over_where_no_rooms_are_alike_is_a_list_of_its_own(self):
        hall = Hall(HALF, [("x", [Sure("a", ONE, "x")]), ("y", [])])
        plan = [0, None]
        told = carried(hall, [0, 0], plan)
        told[0] = 5
        self.assertEqual(plan, [0, None])


if __name__ == "__main__":
    unittest.main()
