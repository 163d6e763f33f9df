"""[12] halls, their refusals, the numbers of rooms and doors; [2] and [3] over them."""

import copy
import itertools
import unittest
from fractions import Fraction

from chancehall.doors import Even, Mixed, Sure, Toss
from chancehall.errors import HallError, NoDoor, NoName, NoRoom, NoShare
from chancehall.halls import Hall
from chancehall.ratios import is_ratio
from chancehall.wholes import is_whole

LONG = 10 ** 59 + 7
HALF = (1, 2)
PAY = (1, 1)


# A thing with a mind of its own about being asked, to be refused all the same.
class Stubborn:
    def __eq__(self, other):
        raise RuntimeError("not to be compared")

    def __bool__(self):
        raise RuntimeError("not to be asked for its truth")

    def __len__(self):
        raise RuntimeError("not to be measured")


# A thing that says of itself that it is whatever it is held against.
class Flatterer:
    def __eq__(self, other):
        return True

    def __hash__(self):
        return hash("x")


ODD = [None, True, False, 0.0, 0.5, 1.0, 1j, b"x", [], ["x"], [0], [1, 2], (), (0,), (1, 2, 3), {}, {"x": 0}, {"x"},
       Fraction(1, 2), object(), Stubborn(), Flatterer(), str, Hall]
NO_WORDS = ODD + [0, 1, -1, (1, 2), ("x",), "", "X", "x1", "x y", "x ", " x", "x\n", "abcdefghi", "-"]
NO_SHARES = ODD + [0, 1, "0", "1/2", "x", (2, 4), (0, 2), (1, 0), (1, -2), (True, 2), (False, 1), (0, True),
                   (1, 1), (2, 1), (3, 2), (-1, 1), (-1, 2), (-1, LONG), (LONG, LONG - 1), (LONG, 1)]


def three_rooms():
    """Rooms with names that are beginnings of one another, as are the names of doors."""
    return [
        ("x", [Sure("go", (1, 2), "xy"), Toss("g", (-3, 1), (1, 3), "xyz", "x"), Sure("goo", (0, 1), "x")]),
        ("xyz", []),
        ("xy", [Even("go", (7, 2), ["xyz", "x", "xyz", "xy"])]),
    ]


THREE_OFFERS = [
    [("go", (1, 2), [(2, (1, 1))]), ("g", (-3, 1), [(1, (1, 3)), (0, (2, 3))]), ("goo", (0, 1), [(0, (1, 1))])],
    [],
    [("go", (7, 2), [(1, (1, 2)), (0, (1, 4)), (2, (1, 4))])],
]


class Refusing(unittest.TestCase):
    def is_refused(self, kind, make):
        with self.assertRaises(HallError) as taken:
            make()
        self.assertIs(type(taken.exception), kind)
        return taken.exception


class WithThree(Refusing):
    def is_three(self, hall):
        self.assertEqual(hall.share, HALF)
        self.assertEqual(hall.size(), 3)
        self.assertEqual(hall.names(), ["x", "xyz", "xy"])
        self.assertEqual([hall.offers(room) for room in range(3)], THREE_OFFERS)
        self.assertEqual([hall.place(name) for name in ["x", "xyz", "xy"]], [0, 1, 2])
        self.assertEqual([hall.door_at(0, name) for name in ["go", "g", "goo"]], [0, 1, 2])
        self.assertEqual(hall.door_at(2, "go"), 0)


class Made(WithThree):
    def test_no_room(self):
        hall = Hall((0, 1), [])
        self.assertEqual(hall.size(), 0)
        self.assertEqual(hall.names(), [])
        self.assertEqual(hall.share, (0, 1))

    def test_one_room(self):
        hall = Hall(HALF, [("x", [])])
        self.assertEqual((hall.size(), hall.names(), hall.offers(0)), (1, ["x"], []))
        hall = Hall(HALF, [("x", [Sure("x", PAY, "x")])])
        self.assertEqual((hall.size(), hall.names(), hall.offers(0)), (1, ["x"], [("x", PAY, [(0, (1, 1))])]))

    def test_several_rooms(self):
        self.is_three(Hall(HALF, three_rooms()))

    def test_arguments_by_their_names(self):
        hall = Hall(share=HALF, rooms=three_rooms())
        self.is_three(hall)
        self.assertEqual(hall.place(name="xy"), 2)
        self.assertEqual(hall.door_at(room=0, name="g"), 1)
        self.assertEqual(hall.offers(room=1), [])

    def test_kinds(self):
        hall = Hall(HALF, three_rooms())
        self.assertTrue(is_whole(hall.size()))
        self.assertTrue(is_whole(hall.place("x")))
        self.assertTrue(is_whole(hall.door_at(0, "go")))
        self.assertIs(type(hall.names()), list)
        for room in range(3):
            told = hall.offers(room)
            self.assertIs(type(told), list)
            for offer in told:
                self.assertIs(type(offer), tuple)
                self.assertIs(type(offer[2]), list)
                for way in offer[2]:
                    self.assertIs(type(way), tuple)
                    self.assertTrue(is_whole(way[0]))
                    self.assertTrue(is_ratio(way[1]))

    def test_shares(self):
        for share in [(0, 1), (1, 2), (99, 100), (1, 100), (LONG - 1, LONG), (1, LONG)]:
            self.assertEqual(Hall(share, []).share, share)
            self.assertEqual(Hall(share, three_rooms()).share, share)

    def test_names_of_doors_are_the_rooms_own(self):
        door = Sure("go", PAY, "x")
        hall = Hall(HALF, [("x", [door]), ("y", [door]), ("go", [door, Sure("x", PAY, "go")])])
        self.assertEqual([hall.door_at(room, "go") for room in range(3)], [0, 0, 0])
        self.assertEqual(hall.door_at(2, "x"), 1)
        self.assertEqual(hall.offers(0), hall.offers(1))

    def test_doors_may_lead_to_rooms_behind(self):
        hall = Hall(HALF, [("x", [Sure("go", PAY, "z")]), ("y", []), ("z", [Sure("go", PAY, "x")])])
        self.assertEqual(hall.offers(0), [("go", PAY, [(2, (1, 1))])])
        self.assertEqual(hall.offers(2), [("go", PAY, [(0, (1, 1))])])

    def test_ways_keep_the_order_of_the_door(self):
        names = ["a", "b", "c", "d"]
        for rooms in itertools.permutations(names):
            hall = Hall(HALF, [(name, []) for name in names] + [("e", [Even("go", PAY, list(rooms))])])
            wanted = [(names.index(room), (1, 4)) for room in rooms]
            self.assertEqual(hall.offers(4), [("go", PAY, wanted)])

    def test_a_way_of_chance_nought_to_no_room(self):
        hall = Hall(HALF, [("x", [
            Mixed("a", PAY, [("nowhere", (0, 1)), ("x", (1, 1))]),
            Toss("b", PAY, (0, 1), "nowhere", "x"),
            Toss("c", PAY, (1, 1), "x", "nowhere"),
        ])])
        self.assertEqual(hall.offers(0), [(name, PAY, [(0, (1, 1))]) for name in "abc"])

    def test_as_large_as_they_come_and_larger(self):
        for many, doors in [(12, 6), (40, 20)]:
            names = ["r" + chr(97 + k // 26) + chr(97 + k % 26) for k in range(many)]
            called = ["d" + chr(97 + k) for k in range(doors)]
            pays = [(LONG + k, 1) for k in range(doors)]
            hall = Hall((99, 100), [
                (name, [Even(called[k], pays[k], [names[(k + turn) % many] for turn in range(8)])
                        for k in range(doors)])
                for name in names
            ])
            self.assertEqual(hall.size(), many)
            self.assertEqual([hall.place(name) for name in names], list(range(many)))
            for room in range(many):
                self.assertEqual([hall.door_at(room, name) for name in called], list(range(doors)))
                self.assertEqual(hall.offers(room), [
                    (called[k], pays[k], [((k + turn) % many, (1, 8)) for turn in range(8)]) for k in range(doors)
                ])


class Refusals(Refusing):
    def test_shares(self):
        for thing in NO_SHARES:
            self.is_refused(NoShare, lambda: Hall(thing, []))
            self.is_refused(NoShare, lambda: Hall(thing, three_rooms()))

    def test_names_of_rooms(self):
        for thing in NO_WORDS:
            self.is_refused(NoName, lambda: Hall(HALF, [(thing, [])]))
            self.is_refused(NoName, lambda: Hall(HALF, [("x", []), (thing, [])]))
            self.is_refused(NoName, lambda: Hall(HALF, [("x", []), (thing, []), ("y", [])]))

    def test_a_room_named_as_one_ahead(self):
        for names in [["x", "x"], ["x", "y", "x"], ["y", "x", "x"], ["x", "xy", "xyz", "xy"]]:
            self.is_refused(NoName, lambda: Hall(HALF, [(name, []) for name in names]))

    def test_a_door_named_as_one_ahead(self):
        go = Sure("go", PAY, "x")
        other = Sure("g", PAY, "x")
        for doors in [[go, go], [go, other, go], [other, go, go], [go, Sure("go", (2, 1), "y")],
                      [go, Even("go", PAY, ["x"])]]:
            self.is_refused(NoName, lambda: Hall(HALF, [("x", doors), ("y", [])]))
            self.is_refused(NoName, lambda: Hall(HALF, [("y", []), ("x", doors)]))

    def test_ways_to_no_room(self):
        for door, wanted in [
            (Sure("go", PAY, "no"), "no"),
            (Sure("go", PAY, "xx"), "xx"),
            (Toss("go", PAY, HALF, "no", "nay"), "no"),
            (Toss("go", PAY, HALF, "x", "nay"), "nay"),
            (Toss("go", PAY, (0, 1), "no", "nay"), "nay"),
            (Even("go", PAY, ["x", "nay", "no", "nay"]), "nay"),
            (Mixed("go", PAY, [("no", (0, 1)), ("nay", HALF), ("x", HALF)]), "nay"),
            (Mixed("go", PAY, [("no", (0, 1)), ("nay", HALF), ("no", HALF)]), "no"),
            (Mixed("go", PAY, [("x", HALF), ("xy", (1, 4)), ("xyzz", (1, 4))]), "xyzz"),
        ]:
            rooms = [("x", [Sure("a", PAY, "xy"), door]), ("xy", [])]
            self.assertEqual(self.is_refused(NoRoom, lambda: Hall(HALF, rooms)).room, wanted)
            rooms = [("xy", []), ("x", [door, Sure("a", PAY, "xy")])]
            self.assertEqual(self.is_refused(NoRoom, lambda: Hall(HALF, rooms)).room, wanted)

    def test_ways_to_rooms_of_a_hall_without_others(self):
        self.assertEqual(self.is_refused(NoRoom, lambda: Hall(HALF, [("x", [Sure("a", PAY, "y")])])).room, "y")


def faulty(faults):
    """A hall with the faults asked for, each in a place of its own."""
    share = (1, 1) if "share" in faults else HALF
    first = [Sure("a", PAY, "lost" if "first way" in faults else "x")]
    if "first twin" in faults:
        first.append(Sure("a", PAY, "gone" if "way of first twin" in faults else "x"))
    second = [Sure("b", PAY, "x"), Sure("b" if "second twin" in faults else "c", PAY, "x")]
    second.append(Sure("d", PAY, "away" if "second way" in faults else "y"))
    names = ["x", "Bad" if "bad name" in faults else "y", "x" if "room twin" in faults else "z"]
    return Hall(share, [(names[0], first), (names[1], second), (names[2], [])])


# In the order in which they are refused, with the field room where there is one.
FAULTS = [
    ("share", NoShare, None), ("bad name", NoName, None), ("room twin", NoName, None),
    ("first way", NoRoom, "lost"), ("first twin", NoName, None), ("second twin", NoName, None),
    ("second way", NoRoom, "away"),
]


class Order(Refusing):
    def test_without_faults(self):
        self.assertEqual(faulty([]).size(), 3)

    def test_any_faults_at_once(self):
        for many in range(1, len(FAULTS) + 1):
            for faults in itertools.combinations(FAULTS, many):
                taken = self.is_refused(faults[0][1], lambda: faulty([fault[0] for fault in faults]))
                if faults[0][1] is NoRoom:
                    self.assertEqual(taken.room, faults[0][2])

    def test_a_door_is_refused_for_its_name_ahead_of_its_ways(self):
        self.is_refused(NoName, lambda: faulty(["first twin", "way of first twin"]))

    def test_names_of_all_rooms_go_ahead_of_doors(self):
        lost = [Sure("a", PAY, "lost"), Sure("a", PAY, "x")]
        for thing in NO_WORDS + ["x"]:
            self.is_refused(NoName, lambda: Hall(HALF, [("x", lost[:1]), ("y", []), (thing, [])]))
        self.assertEqual(self.is_refused(NoRoom, lambda: Hall(HALF, [("x", lost), ("y", [])])).room, "lost")

    def test_doors_in_turn(self):
        twins = [Sure("a", PAY, "x"), Sure("a", PAY, "x")]
        lost = [Sure("a", PAY, "x"), Sure("b", PAY, "lost"), Sure("b", PAY, "gone")]
        self.is_refused(NoName, lambda: Hall(HALF, [("x", twins), ("y", lost)]))
        self.assertEqual(self.is_refused(NoRoom, lambda: Hall(HALF, [("x", lost), ("y", twins)])).room, "lost")

    def test_the_share_goes_ahead_of_things_of_any_kind(self):
        for thing in NO_WORDS:
            self.is_refused(NoShare, lambda: Hall((1, 1), [(thing, [])]))


class Asked(Refusing):
    def test_names_that_are_no_rooms(self):
        hall = Hall(HALF, three_rooms())
        for thing in NO_WORDS + ["y", "xx", "xyzz", "xyy", "go", "XY", "xyz "]:
            self.assertIs(self.is_refused(NoRoom, lambda: hall.place(thing)).room, thing)
        for thing in NO_WORDS + ["x"]:
            self.assertIs(self.is_refused(NoRoom, lambda: Hall(HALF, []).place(thing)).room, thing)

    def test_numbers_that_are_no_rooms(self):
        for many in range(4):
            hall = Hall(HALF, three_rooms() if many == 3 else [("abc"[k], []) for k in range(many)])
            for thing in ODD + [many, many + 1, -1, -2, -many - 1, LONG, -LONG, "x", "0", "", (0, 1), (1, 2)]:
                self.assertIs(self.is_refused(NoRoom, lambda: hall.offers(thing)).room, thing)
                for name in ["go", "no", None]:
                    self.assertIs(self.is_refused(NoRoom, lambda: hall.door_at(thing, name)).room, thing)

    def test_names_that_are_no_doors(self):
        hall = Hall(HALF, three_rooms())
        for room, others in [(0, ["x", "xy", "gooo", "o", "oo"]), (1, ["go", "g", "goo"]), (2, ["g", "goo", "xy"])]:
            for thing in NO_WORDS + others:
                self.assertIs(self.is_refused(NoDoor, lambda: hall.door_at(room, thing)).door, thing)

    def test_the_room_goes_ahead_of_the_door(self):
        hall = Hall(HALF, three_rooms())
        for thing in NO_WORDS:
            self.assertEqual(self.is_refused(NoRoom, lambda: hall.door_at(3, thing)).room, 3)
        for thing in ODD:
            self.assertIs(self.is_refused(NoRoom, lambda: hall.door_at(thing, thing)).room, thing)

    def test_what_is_refused_is_not_changed(self):
        hall = Hall(HALF, three_rooms())
        things = [["x", ["y"]], {"x": [0]}]
        kept = copy.deepcopy(things)
        for thing in things:
            self.is_refused(NoRoom, lambda: hall.place(thing))
            self.is_refused(NoRoom, lambda: hall.offers(thing))
            self.is_refused(NoDoor, lambda: hall.door_at(0, thing))
            self.is_refused(NoShare, lambda: Hall(thing, []))
            self.is_refused(NoName, lambda: Hall(HALF, [(thing, [])]))
        self.assertEqual(things, kept)


class Lists(WithThree):
    def test_lists_handed_in_stay(self):
        rooms = three_rooms()
        kept = [(name, list(doors)) for name, doors in rooms]
        ways = [[door.ways() for door in doors] for name, doors in rooms]
        self.is_three(Hall(HALF, rooms))
        self.assertEqual(rooms, kept)
        self.assertEqual([[door.ways() for door in doors] for name, doors in rooms], ways)

    def test_lists_of_refused_halls_stay(self):
        rooms = three_rooms() + [("y", [Sure("go", PAY, "lost")])]
        kept = [(name, list(doors)) for name, doors in rooms]
        self.is_refused(NoRoom, lambda: Hall(HALF, rooms))
        self.assertEqual(rooms, kept)

    def test_changes_of_the_list_of_rooms(self):
        rooms = three_rooms()
        hall = Hall(HALF, rooms)
        rooms.append(("new", []))
        self.is_three(hall)
        rooms[0] = ("y", [])
        rooms.reverse()
        self.is_three(hall)
        rooms.clear()
        self.is_three(hall)

    def test_changes_of_the_lists_of_doors(self):
        rooms = three_rooms()
        hall = Hall(HALF, rooms)
        rooms[0][1].pop()
        rooms[1][1].append(Sure("new", PAY, "x"))
        rooms[2][1][0] = Sure("new", PAY, "x")
        self.is_three(hall)
        for name, doors in rooms:
            doors.clear()
        self.is_three(hall)

    def test_changes_of_the_lists_of_a_door(self):
        pairs = [("x", HALF), ("y", HALF)]
        rooms = ["y", "x"]
        hall = Hall(HALF, [("x", [Mixed("a", PAY, pairs), Even("b", PAY, rooms)]), ("y", [])])
        pairs[0] = ("y", HALF)
        rooms.clear()
        self.assertEqual(hall.offers(0), [("a", PAY, [(0, HALF), (1, HALF)]), ("b", PAY, [(1, HALF), (0, HALF)])])

    def test_changes_of_lists_told(self):
        hall = Hall(HALF, three_rooms())
        names = hall.names()
        names[0] = "new"
        names.append("x")
        self.is_three(hall)
        names.clear()
        self.is_three(hall)
        for room in range(3):
            told = hall.offers(room)
            for name, pay, ways in told:
                ways[0] = (1, (1, 1))
                ways.append((0, (1, 1)))
                self.is_three(hall)
                ways.clear()
                self.is_three(hall)
            told.append(("new", PAY, []))
            self.is_three(hall)
            told.clear()
            self.is_three(hall)

    def test_what_was_told_stays(self):
        hall = Hall(HALF, three_rooms())
        names = hall.names()
        told = [hall.offers(room) for room in range(3)]
        hall.names().clear()
        for room in range(3):
            for name, pay, ways in hall.offers(room):
                ways.clear()
            hall.offers(room).clear()
        self.assertEqual(names, ["x", "xyz", "xy"])
        self.assertEqual(told, THREE_OFFERS)

    def test_two_halls_of_the_same_lists(self):
        rooms = three_rooms()
        one = Hall(HALF, rooms)
        rooms.pop()
        rooms[0] = ("y", [Sure("go", PAY, "xyz")])
        other = Hall((1, 3), rooms)
        self.is_three(one)
        self.assertEqual((other.share, other.names()), ((1, 3), ["y", "xyz"]))
        self.assertEqual(other.offers(0), [("go", PAY, [(1, (1, 1))])])


if __name__ == "__main__":
    unittest.main()
