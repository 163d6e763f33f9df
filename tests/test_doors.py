"""[10] the four sorts of doors and their refusals, [11] their ways; [2] over both."""

import copy
import itertools
import unittest
from fractions import Fraction

from chancehall.doors import Door, Even, Mixed, Sure, Toss
from chancehall.errors import HallError, NoChance, NoName, NoNumber
from chancehall.ratios import is_ratio

LONG = 10 ** 59 + 7


# A thing with a mind of its own about being asked, to be refused all the same.
class Stubborn:
    def __eq__(self, other):
        raise RuntimeError("not to be compared")

    def __bool__(self):
        raise RuntimeError("not to be asked for its truth")

    def __len__(self):
        raise RuntimeError("not to be measured")


ODD = [None, True, False, 0, 1, -4, 0.5, 1.0, 1j, b"a", [], ["a"], [1, 2], [0, 1], (), (1,), (1, 2, 3), {},
       {"a": 1}, {"a"}, Fraction(1, 2), object(), Stubborn(), str, Door]
NO_WORDS = ODD + [(1, 2), ("a",), "", "A", "a1", "a b", "a ", " a", "a\n", "abcdefghi", "-", "a" * 10000]
NO_FRACTIONS = ODD + ["", "a", "1", "1/2", (2, 4), (0, 2), (1, 0), (1, -2), (0, 0), (True, 1), (1, True),
                      (False, 1), (True, 2), (1.0, 2), ("1", 2), (1, "2"), (None, 1), ([1], 2)]
NO_CHANCES = NO_FRACTIONS + [(-1, 1), (-1, 2), (-1, LONG), (2, 1), (3, 2), (LONG + 1, LONG)]
PAYS = [(0, 1), (1, 1), (-1, 1), (7, 3), (-7, 3), (LONG, 1), (-LONG, 2), (1, LONG)]

BAD_NAME = "Bad"
BAD_PAY = (2, 4)
BAD_CHANCE = (3, 2)


def fill(make, faults):
    """What makes a door with faulty things in the place of the good ones."""
    return lambda: make(**faults)


def sure(name="a", pay=(1, 1), room="x"):
    return Sure(name, pay, room)


def mixed(name="a", pay=(1, 1), room="x", chance=(1, 2), room_two="y", chance_two=(1, 2), room_three="z",
          chance_three=(0, 1)):
    return Mixed(name, pay, [(room, chance), (room_two, chance_two), (room_three, chance_three)])


def toss(name="a", pay=(1, 1), chance=(1, 3), room="x", other="y"):
    return Toss(name, pay, chance, room, other)


def even(name="a", pay=(1, 1), room="x", room_two="y", room_three="z"):
    return Even(name, pay, [room, room_two, room_three])


# Of each sort its slots in the order in which they are refused: (slot, faulty value, refusal).
ORDERS = [
    (sure, [("name", BAD_NAME, NoName), ("pay", BAD_PAY, NoNumber), ("room", BAD_NAME, NoName)]),
    (mixed, [("name", BAD_NAME, NoName), ("pay", BAD_PAY, NoNumber), ("room", BAD_NAME, NoName),
             ("chance", BAD_CHANCE, NoChance), ("room_two", BAD_NAME, NoName),
             ("chance_two", BAD_CHANCE, NoChance), ("room_three", BAD_NAME, NoName),
             ("chance_three", (1, 5), NoChance)]),
    (toss, [("name", BAD_NAME, NoName), ("pay", BAD_PAY, NoNumber), ("chance", BAD_CHANCE, NoChance),
            ("room", BAD_NAME, NoName), ("other", BAD_NAME, NoName)]),
    (even, [("name", BAD_NAME, NoName), ("pay", BAD_PAY, NoNumber), ("room", BAD_NAME, NoName),
            ("room_two", BAD_NAME, NoName), ("room_three", BAD_NAME, NoName)]),
]


class Refusing(unittest.TestCase):
    def is_refused(self, kind, make):
        with self.assertRaises(HallError) as taken:
            make()
        self.assertIs(type(taken.exception), kind)


class Sorts(unittest.TestCase):
    def test_which_stands_under_which(self):
        self.assertEqual(Door.__bases__, (object,))
        self.assertEqual(Sure.__bases__, (Door,))
        self.assertEqual(Mixed.__bases__, (Door,))
        self.assertEqual(Toss.__bases__, (Mixed,))
        self.assertEqual(Even.__bases__, (Mixed,))

    def test_of_objects(self):
        for door, kinds in [(sure(), [Sure]), (mixed(), [Mixed]), (toss(), [Mixed, Toss]), (even(), [Mixed, Even])]:
            self.assertIsInstance(door, Door)
            for kind in [Sure, Mixed, Toss, Even]:
                self.assertEqual(isinstance(door, kind), kind in kinds, (door, kind))

    def test_arguments_by_their_names(self):
        self.assertEqual(Door(name="a", pay=(1, 2)).name, "a")
        self.assertEqual(Sure(name="a", pay=(1, 2), room="x").ways(), [("x", (1, 1))])
        self.assertEqual(Mixed(name="a", pay=(1, 2), pairs=[("x", (1, 1))]).ways(), [("x", (1, 1))])
        door = Toss(name="a", pay=(1, 2), chance=(1, 4), room="x", other="y")
        self.assertEqual(door.ways(), [("x", (1, 4)), ("y", (3, 4))])
        self.assertEqual(Even(name="a", pay=(1, 2), rooms=["x", "y"]).ways(), [("x", (1, 2)), ("y", (1, 2))])
        self.assertEqual(Sure("a", (1, 2), "x").chance_to(room="x"), (1, 1))

    def test_names_and_pays(self):
        for name in ["a", "z", "go", "abcdefgh"]:
            for pay in PAYS:
                for door in [Door(name, pay), sure(name, pay), mixed(name, pay), toss(name, pay), even(name, pay)]:
                    self.assertEqual(door.name, name)
                    self.assertEqual(door.pay, pay)

    def test_each_object_has_its_own(self):
        one = sure("a", (1, 2), "x")
        other = sure("b", (1, 3), "y")
        self.assertEqual((one.name, one.pay, one.ways()), ("a", (1, 2), [("x", (1, 1))]))
        self.assertEqual((other.name, other.pay, other.ways()), ("b", (1, 3), [("y", (1, 1))]))


class DoorItself(Refusing):
    def test_it_has_no_ways(self):
        door = Door("a", (1, 2))
        self.assertEqual(door.ways(), [])
        door.ways().append(("x", (1, 1)))
        self.assertEqual(door.ways(), [])
        self.assertEqual(door.chance_to("x"), (0, 1))

    def test_its_refusals(self):
        for thing in NO_WORDS:
            self.is_refused(NoName, lambda: Door(thing, (1, 2)))
            self.is_refused(NoName, lambda: Door(thing, (2, 4)))
        for thing in NO_FRACTIONS:
            self.is_refused(NoNumber, lambda: Door("a", thing))


class Refusals(Refusing):
    def test_names(self):
        for thing in NO_WORDS:
            for make, order in ORDERS:
                self.is_refused(NoName, fill(make, {"name": thing}))

    def test_pays(self):
        for thing in NO_FRACTIONS:
            for make, order in ORDERS:
                self.is_refused(NoNumber, fill(make, {"pay": thing}))

    def test_rooms(self):
        for thing in NO_WORDS:
            for make, order in ORDERS:
                for slot in [slot for slot, value, kind in order if slot.startswith(("room", "other"))]:
                    self.is_refused(NoName, fill(make, {slot: thing}))

    def test_chances(self):
        for thing in NO_CHANCES:
            self.is_refused(NoChance, fill(toss, {"chance": thing}))
            for slot in ["chance", "chance_two", "chance_three"]:
                self.is_refused(NoChance, fill(mixed, {slot: thing}))

    def test_a_chance_beyond_is_refused_even_where_all_come_to_one(self):
        self.is_refused(NoChance, fill(mixed, {"chance": (3, 2), "chance_two": (-1, 2)}))
        self.is_refused(NoChance, fill(mixed, {"chance": (-1, 2), "chance_two": (3, 2)}))
        self.is_refused(NoChance, fill(mixed, {"chance": (1, 1), "chance_two": (1, 2), "chance_three": (-1, 2)}))

    def test_no_room_at_all(self):
        self.is_refused(NoChance, lambda: Mixed("a", (1, 1), []))
        self.is_refused(NoChance, lambda: Even("a", (1, 1), []))

    def test_no_room_behind_name_and_pay(self):
        for make in [Mixed, Even]:
            self.is_refused(NoName, lambda: make(BAD_NAME, (1, 1), []))
            self.is_refused(NoName, lambda: make(BAD_NAME, BAD_PAY, []))
            self.is_refused(NoNumber, lambda: make("a", BAD_PAY, []))

    def test_chances_that_come_to_less_than_one(self):
        for pairs in [[("x", (0, 1))], [("x", (1, 2))], [("x", (1, 2)), ("y", (1, 3))], [("x", (LONG - 1, LONG))],
                      [("x", (1, 3)), ("x", (1, 3))], [("x", (0, 1)), ("y", (0, 1))]]:
            self.is_refused(NoChance, lambda: Mixed("a", (1, 1), pairs))

    def test_chances_that_come_to_more_than_one(self):
        for pairs in [[("x", (1, 1)), ("y", (1, LONG))], [("x", (1, 2)), ("y", (2, 3))],
                      [("x", (1, 2)), ("x", (1, 2)), ("x", (1, 2))], [("x", (1, 1)), ("y", (1, 1))]]:
            self.is_refused(NoChance, lambda: Mixed("a", (1, 1), pairs))

    def test_nought_and_one_are_chances(self):
        self.assertEqual(Mixed("a", (1, 1), [("x", (1, 1))]).ways(), [("x", (1, 1))])
        self.assertEqual(Mixed("a", (1, 1), [("x", (0, 1)), ("y", (1, 1))]).ways(), [("y", (1, 1))])
        self.assertEqual(Toss("a", (1, 1), (0, 1), "x", "y").ways(), [("y", (1, 1))])
        self.assertEqual(Toss("a", (1, 1), (1, 1), "x", "y").ways(), [("x", (1, 1))])


class Order(Refusing):
    def test_each_fault_by_itself(self):
        for make, order in ORDERS:
            make()
            for slot, value, kind in order:
                self.is_refused(kind, fill(make, {slot: value}))

    def test_any_faults_at_once(self):
        for make, order in ORDERS:
            for many in range(2, len(order) + 1):
                for faults in itertools.combinations(order, many):
                    wanted = faults[0][2]
                    self.is_refused(wanted, fill(make, {slot: value for slot, value, kind in faults}))

    def test_things_of_any_kind_are_refused_in_the_same_order(self):
        for thing in ODD:
            self.is_refused(NoName, lambda: Sure(thing, thing, thing))
            self.is_refused(NoNumber, lambda: Sure("a", thing, thing))
            self.is_refused(NoName, lambda: Mixed(thing, thing, [(thing, thing)]))
            self.is_refused(NoNumber, lambda: Mixed("a", thing, [(thing, thing)]))
            self.is_refused(NoName, lambda: Mixed("a", (1, 1), [(thing, thing)]))
            self.is_refused(NoChance, lambda: Mixed("a", (1, 1), [("x", thing), (thing, (1, 2))]))
            self.is_refused(NoName, lambda: Toss(thing, thing, thing, thing, thing))
            self.is_refused(NoNumber, lambda: Toss("a", thing, thing, thing, thing))
            self.is_refused(NoChance, lambda: Toss("a", (1, 1), thing, thing, thing))
            self.is_refused(NoName, lambda: Toss("a", (1, 1), (1, 2), thing, thing))
            self.is_refused(NoName, lambda: Even(thing, thing, [thing]))
            self.is_refused(NoNumber, lambda: Even("a", thing, [thing]))
            self.is_refused(NoName, lambda: Even("a", (1, 1), [thing]))

    def test_the_sum_of_chances_is_looked_at_last(self):
        self.is_refused(NoName, lambda: Mixed("a", (1, 1), [("x", (1, 2)), ("Y", (1, 3))]))
        self.is_refused(NoName, lambda: Mixed("a", (1, 1), [("x", (1, 1)), ("y", (1, 1)), (None, (1, 1))]))

    def test_a_room_is_looked_at_though_its_chance_is_nought(self):
        self.is_refused(NoName, lambda: Mixed("a", (1, 1), [("x", (1, 1)), ("Y", (0, 1))]))
        self.is_refused(NoName, lambda: Toss("a", (1, 1), (0, 1), "X", "y"))
        self.is_refused(NoName, lambda: Toss("a", (1, 1), (1, 1), "x", "Y"))


class Ways(unittest.TestCase):
    def has_ways(self, door, wanted):
        told = door.ways()
        self.assertIs(type(told), list)
        self.assertEqual(told, wanted)
        for way in told:
            self.assertIs(type(way), tuple)
            self.assertTrue(is_ratio(way[1]))
        chances = dict(wanted)
        for room in ["x", "y", "z", "w", "xx", "xy", "nowhere"]:
            chance = door.chance_to(room)
            self.assertEqual(chance, chances.get(room, (0, 1)))
            self.assertTrue(is_ratio(chance))

    def test_sure(self):
        self.has_ways(Sure("a", (1, 1), "x"), [("x", (1, 1))])
        self.has_ways(Sure("x", (0, 1), "xx"), [("xx", (1, 1))])

    def test_mixed(self):
        for pairs, wanted in [
            ([("x", (1, 1))], [("x", (1, 1))]),
            ([("y", (1, 3)), ("x", (2, 3))], [("y", (1, 3)), ("x", (2, 3))]),
            ([("x", (1, 2)), ("x", (1, 2))], [("x", (1, 1))]),
            ([("x", (1, 6)), ("y", (1, 2)), ("x", (1, 3))], [("x", (1, 2)), ("y", (1, 2))]),
            ([("x", (1, 4)), ("y", (1, 4)), ("y", (1, 4)), ("x", (1, 4))], [("x", (1, 2)), ("y", (1, 2))]),
            ([("x", (0, 1)), ("y", (1, 1))], [("y", (1, 1))]),
            ([("y", (1, 1)), ("x", (0, 1))], [("y", (1, 1))]),
            ([("x", (0, 1)), ("x", (0, 1)), ("y", (1, 1))], [("y", (1, 1))]),
            ([("x", (0, 1)), ("y", (1, 2)), ("x", (1, 2))], [("x", (1, 2)), ("y", (1, 2))]),
            ([("x", (0, 1)), ("y", (0, 1)), ("y", (1, 3)), ("x", (2, 3))], [("x", (2, 3)), ("y", (1, 3))]),
            ([("xx", (1, 2)), ("x", (1, 4)), ("xy", (1, 4))], [("xx", (1, 2)), ("x", (1, 4)), ("xy", (1, 4))]),
            ([("z", (1, LONG)), ("x", (LONG - 1, LONG))], [("z", (1, LONG)), ("x", (LONG - 1, LONG))]),
        ]:
            self.has_ways(Mixed("a", (1, 1), pairs), wanted)

    def test_toss(self):
        for chance, room, other, wanted in [
            ((1, 3), "x", "y", [("x", (1, 3)), ("y", (2, 3))]),
            ((1, 2), "y", "x", [("y", (1, 2)), ("x", (1, 2))]),
            ((1, 3), "x", "x", [("x", (1, 1))]),
            ((0, 1), "x", "x", [("x", (1, 1))]),
            ((1, 1), "x", "x", [("x", (1, 1))]),
            ((0, 1), "x", "y", [("y", (1, 1))]),
            ((1, 1), "x", "y", [("x", (1, 1))]),
            ((1, LONG), "x", "y", [("x", (1, LONG)), ("y", (LONG - 1, LONG))]),
        ]:
            self.has_ways(Toss("a", (1, 1), chance, room, other), wanted)

    def test_even(self):
        for rooms, wanted in [
            (["x"], [("x", (1, 1))]),
            (["x", "x"], [("x", (1, 1))]),
            (["y", "x"], [("y", (1, 2)), ("x", (1, 2))]),
            (["x", "y", "x"], [("x", (2, 3)), ("y", (1, 3))]),
            (["y", "x", "x", "y"], [("y", (1, 2)), ("x", (1, 2))]),
            (["z", "y", "x", "y", "y", "z"], [("z", (1, 3)), ("y", (1, 2)), ("x", (1, 6))]),
            (["x", "x", "y", "x", "x", "x", "x", "x"], [("x", (7, 8)), ("y", (1, 8))]),
        ]:
            self.has_ways(Even("a", (1, 1), rooms), wanted)

    def test_a_door_told_with_many_rooms(self):
        self.has_ways(Even("a", (1, 1), ["x"] * 120 + ["y"] * 80), [("x", (3, 5)), ("y", (2, 5))])
        pairs = [("w", (0, 1))] + [("y", (1, 300)), ("x", (1, 100))] * 75
        self.has_ways(Mixed("a", (1, 1), pairs), [("y", (1, 4)), ("x", (3, 4))])

    def test_every_small_mixed_door(self):
        chances = [(0, 1), (1, 4), (1, 2), (3, 4), (1, 1)]
        seen = 0
        for many in range(1, 5):
            for parts in itertools.product(chances, repeat=many):
                if sum([Fraction(top, bottom) for top, bottom in parts]) != 1:
                    continue
                for rooms in itertools.product("xyz", repeat=many):
                    pairs = list(zip(rooms, parts))
                    self.has_ways(Mixed("a", (1, 1), pairs), ways_by_their_words(pairs))
                    seen += 1
        self.assertGreater(seen, 500)

    def test_ways_come_to_one(self):
        for many in range(1, 9):
            for rooms in itertools.product("xy", repeat=many):
                ways = Even("a", (1, 1), list(rooms)).ways()
                self.assertEqual(sum([Fraction(top, bottom) for room, (top, bottom) in ways]), 1)
                self.assertTrue(all(way[1][0] > 0 for way in ways))


def ways_by_their_words(pairs):
    ways = []
    for place, (room, chance) in enumerate(pairs):
        if room in [other for other, part in pairs[:place]]:
            continue
        whole = sum([Fraction(top, bottom) for other, (top, bottom) in pairs if other == room])
        if whole > 0:
            ways.append((room, (whole.numerator, whole.denominator)))
    return ways


class Lists(Refusing):
    def test_lists_handed_in_stay(self):
        pairs = [("x", (0, 1)), ("y", (1, 2)), ("x", (1, 2))]
        rooms = ["y", "x", "y"]
        kept = (copy.deepcopy(pairs), list(rooms))
        for door in [Mixed("a", (1, 1), pairs), Even("a", (1, 1), rooms)]:
            door.ways()
            door.chance_to("x")
        self.assertEqual((pairs, rooms), kept)

    def test_lists_of_refused_doors_stay(self):
        pairs = [("x", (1, 2)), (["y"], (1, 2))]
        rooms = ["y", ["x"]]
        kept = copy.deepcopy((pairs, rooms))
        self.is_refused(NoName, lambda: Mixed("a", (1, 1), pairs))
        self.is_refused(NoName, lambda: Even("a", (1, 1), rooms))
        self.assertEqual((pairs, rooms), kept)

    def test_changes_of_lists_handed_in(self):
        pairs = [("x", (1, 3)), ("y", (2, 3))]
        rooms = ["x", "y", "y"]
        doors = [Mixed("a", (1, 1), pairs), Even("a", (1, 1), rooms)]
        pairs[0] = ("z", (1, 1))
        pairs.append(("w", (1, 1)))
        rooms[0] = "z"
        rooms.append("w")
        self.are_as_made(doors)
        pairs.clear()
        rooms.clear()
        self.are_as_made(doors)

    def are_as_made(self, doors):
        for door in doors:
            self.assertEqual(door.ways(), [("x", (1, 3)), ("y", (2, 3))])
            self.assertEqual([door.chance_to(room) for room in "xyzw"], [(1, 3), (2, 3), (0, 1), (0, 1)])

    def test_changes_of_lists_told(self):
        doors = [Mixed("a", (1, 1), [("x", (1, 3)), ("y", (2, 3))]), Even("a", (1, 1), ["x", "y", "y"]),
                 Toss("a", (1, 1), (1, 3), "x", "y")]
        for door in doors:
            told = door.ways()
            told[0] = ("z", (1, 1))
            told.append(("w", (1, 1)))
            self.are_as_made([door])
            door.ways().clear()
            self.are_as_made([door])
            told.clear()
            self.are_as_made([door])
        door = Sure("a", (1, 1), "x")
        door.ways().clear()
        door.ways().append(("y", (1, 1)))
        self.assertEqual((door.ways(), door.chance_to("x"), door.chance_to("y")), ([("x", (1, 1))], (1, 1), (0, 1)))

    def test_what_was_told_stays(self):
        door = Even("a", (1, 1), ["x", "y", "y"])
        told = door.ways()
        door.ways().clear()
        door.chance_to("x")
        self.assertEqual(told, [("x", (1, 3)), ("y", (2, 3))])

    def test_two_doors_of_one_list(self):
        rooms = ["x", "y", "y"]
        one = Even("a", (1, 1), rooms)
        rooms.append("y")
        other = Even("b", (1, 1), rooms)
        self.are_as_made([one])
        self.assertEqual(other.ways(), [("x", (1, 4)), ("y", (3, 4))])


if __name__ == "__main__":
    unittest.main()
