"""[20] the worths of a plan, [21] its visits; [18] NoPlan, [12] NoRoom and [2] over them."""

import copy
import itertools
import unittest
from fractions import Fraction

from chancehall.doors import Even, Mixed, Sure, Toss
from chancehall.errors import HallError, NoPlan, NoRoom
from chancehall.halls import Hall
from chancehall.plans import looks
from chancehall.ratios import is_ratio
from chancehall.texts import read, show
from chancehall.worths import visits_from, worths_of

LONG = 10 ** 59 + 7
NOUGHT = (0, 1)
ONE = (1, 1)
HALF = (1, 2)
SHARES = [(0, 1), (1, 2), (1, 100), (2, 3), (37, 91), (9, 10), (98, 99), (99, 100), (999, 1000)]


# A thing with a mind of its own about being asked, to be refused all the same.
class Stubborn:
    def __eq__(self, other):
        raise RuntimeError("not to be compared")

    def __bool__(self):
        raise RuntimeError("not to be asked for its truth")

    def __len__(self):
        raise RuntimeError("not to be measured")


# A thing that says of itself that it is whatever it is held against.
class Flatterer:
    def __eq__(self, other):
        return True

    def __hash__(self):
        return 0


ODD = [True, False, 0.0, 1.0, 0.5, 1j, b"", b"x", "", "0", "x", "None", [], [0], [None], (), (0,), (0, 1), (1, 2, 3),
       {}, {0: 0}, {0}, Fraction(0), Fraction(1), object(), Stubborn(), Flatterer(), list, Hall]
NO_LISTS = [thing for thing in ODD if not isinstance(thing, list)] + [
    None, 0, 1, 3, (0, None, 0), {0: 0, 1: None, 2: 0}, range(3), "012"]

THREE = "\n".join([
    "share 1/2", "room x", "door a 1 sure y", "door b -3/2 even x z", "door c 0 toss 1/3 z y", "room y", "room z",
    "door a 5 mixed x 1/4 y 1/4 z 1/2", "door b 0 sure z",
])


class Numbers:
    """Numbers that are always the same ones, without any order that meets the eye."""

    def __init__(self, seed):
        self.state = seed

    def below(self, many):
        found = 0
        while found < many:
            self.state = (self.state * 6364136223846793005 + 1442695040888963407) % 2 ** 64
            found = (found << 31) + (self.state >> 33) + 1
        return found % many

    def fraction(self, large):
        return Fraction(self.below(2 * large + 1) - large, 1 + self.below(large))


def pair(number):
    return (Fraction(number).numerator, Fraction(number).denominator)


def names_of(many):
    return [chr(97 + room) for room in range(many)]


def some_door(numbers, name, rooms, large):
    """A door of any sort, to any of the rooms."""
    pay = pair(numbers.fraction(large))
    told = [rooms[numbers.below(len(rooms))] for k in range(1 + numbers.below(8))]
    sort = numbers.below(4)
    if sort == 0:
        return Sure(name, pay, told[0])
    if sort == 1:
        return Even(name, pay, told)
    if sort == 2:
        bottom = 1 + numbers.below(large)
        return Toss(name, pay, pair(Fraction(numbers.below(bottom + 1), bottom)), told[0], told[-1])
    parts = [1 + numbers.below(large) for k in told]
    return Mixed(name, pay, [(room, pair(Fraction(part, sum(parts)))) for room, part in zip(told, parts)])


def some_hall(numbers, share, doors, large):
    """A hall whose rooms have so many doors each."""
    rooms = names_of(len(doors))
    return Hall(share, [
        (room, [some_door(numbers, "d" + chr(97 + door), rooms, large) for door in range(many)])
        for room, many in zip(rooms, doors)
    ])


def all_plans(hall):
    doors = [len(hall.offers(room)) for room in range(hall.size())]
    return [list(plan) for plan in itertools.product(*[range(many) if many else [None] for many in doors])]


def some_plan(numbers, hall):
    doors = [len(hall.offers(room)) for room in range(hall.size())]
    return [numbers.below(many) if many else None for many in doors]


def paid(hall, plan):
    """The pay of the plan's door in each room, nought without doors."""
    return [Fraction(0) if door is None else Fraction(*hall.offers(room)[door][1]) for room, door in enumerate(plan)]


def chances(hall, plan, room):
    """The chances with which the plan's door leads from the room to each one."""
    told = [Fraction(0)] * hall.size()
    if plan[room] is not None:
        for to, chance in hall.offers(room)[plan[room]][2]:
            told[to] += Fraction(*chance)
    return told


def product(numbers, others):
    return sum((one * other for one, other in zip(numbers, others)), Fraction(0))


class Told(unittest.TestCase):
    def is_refused(self, kind, make):
        with self.assertRaises(HallError) as taken:
            make()
        self.assertIs(type(taken.exception), kind)
        return taken.exception

    def no_plan(self, make, room):
        found = self.is_refused(NoPlan, make).room
        self.assertEqual((type(found), found), (type(room), room))

    def fractions(self, told, many):
        self.assertIs(type(told), list)
        self.assertEqual(len(told), many)
        for number in told:
            self.assertTrue(is_ratio(number), number)
        return [Fraction(*number) for number in told]

    def are_worths(self, hall, plan):
        """The worths of the plan, held against the looks of its doors."""
        kept = list(plan)
        before = show(hall)
        told = worths_of(hall, plan)
        worths = self.fractions(told, hall.size())
        self.assertEqual((plan, show(hall)), (kept, before))
        pays = paid(hall, plan)
        for room, door in enumerate(plan):
            look = pays[room] + Fraction(*hall.share) * product(chances(hall, plan, room), worths)
            self.assertEqual(worths[room], look)
            if door is None:
                self.assertEqual(told[room], NOUGHT)
            else:
                self.assertEqual(told[room], looks(hall, room, told)[door])
        return told

    def are_visits(self, hall, plan):
        """The visits of the plan from each room, held against their sums and the worths."""
        kept = list(plan)
        worths = worths_of(hall, plan)
        for start in range(hall.size()):
            visits = self.fractions(visits_from(hall, plan, start), hall.size())
            self.assertEqual(plan, kept)
            for room in range(hall.size()):
                coming = [chances(hall, plan, one)[room] for one in range(hall.size())]
                self.assertEqual(visits[room], (room == start) + Fraction(*hall.share) * product(visits, coming))
                self.assertGreaterEqual(visits[room], 0)
            self.assertEqual(Fraction(*worths[start]), product(visits, paid(hall, plan)))


class Worths(Told):
    def test_no_room(self):
        for share in SHARES:
            hall = Hall(share, [])
            self.assertEqual(worths_of(hall, []), [])
            self.are_worths(hall, [])

    def test_rooms_without_doors(self):
        for many in [1, 2, 12]:
            hall = Hall((9, 10), [(name, []) for name in names_of(many)])
            self.assertEqual(worths_of(hall, [None] * many), [NOUGHT] * many)

    def test_a_door_to_its_own_room(self):
        for share, pay, wanted in [
            ((0, 1), (7, 3), (7, 3)), (HALF, (7, 3), (14, 3)), (HALF, (-7, 3), (-14, 3)), (HALF, NOUGHT, NOUGHT),
            ((99, 100), ONE, (100, 1)), ((99, 100), (-1, 100), (-1, 1)), ((2, 3), (LONG, 1), (3 * LONG, 1)),
            ((999, 1000), ONE, (1000, 1)),
        ]:
            hall = Hall(share, [("x", [Sure("a", pay, "x")])])
            self.assertEqual(worths_of(hall, [0]), [wanted])
            self.are_worths(hall, [0])

    def test_a_door_to_a_room_without_doors(self):
        hall = Hall((9, 10), [("x", [Sure("a", (-7, 2), "y"), Sure("b", (3, 1), "x")]), ("y", [])])
        self.assertEqual(worths_of(hall, [0, None]), [(-7, 2), NOUGHT])
        self.assertEqual(worths_of(hall, [1, None]), [(30, 1), NOUGHT])

    def test_two_rooms_in_turn(self):
        hall = Hall(HALF, [("x", [Sure("a", ONE, "y")]), ("y", [Sure("a", (-2, 1), "x")])])
        # 1 - 2/2 + 1/4 - 2/8 + .. and -2 + 1/2 - 2/4 + 1/8 - ..
        self.assertEqual(worths_of(hall, [0, 0]), [NOUGHT, (-2, 1)])

    def test_three_rooms(self):
        hall = read(THREE)
        # z: w = 5 + (x / 4 + z / 2) / 2, x = 1, so 3/4 of z is 41/8.
        self.assertEqual(worths_of(hall, [0, None, 0]), [ONE, NOUGHT, (41, 6)])
        self.assertEqual(worths_of(hall, [0, None, 1]), [ONE, NOUGHT, NOUGHT])
        self.assertEqual(worths_of(hall, [1, None, 1]), [(-2, 1), NOUGHT, NOUGHT])
        self.assertEqual(worths_of(hall, [2, None, 1]), [NOUGHT, NOUGHT, NOUGHT])
        for plan in all_plans(hall):
            self.are_worths(hall, plan)

    def test_share_nought_leaves_the_pays(self):
        numbers = Numbers(1)
        for doors in [[1], [2, 0, 3], [3, 3, 3, 3]]:
            hall = some_hall(numbers, (0, 1), doors, 50)
            for plan in all_plans(hall):
                told = self.are_worths(hall, plan)
                self.assertEqual([Fraction(*worth) for worth in told], paid(hall, plan))

    def test_each_plan_of_small_halls(self):
        numbers = Numbers(2)
        for share in SHARES:
            for doors in [[], [0], [1], [3], [0, 2], [2, 0, 3], [2, 2, 2], [1, 0, 1, 0, 2]]:
                hall = some_hall(numbers, share, doors, 20)
                for plan in all_plans(hall):
                    self.are_worths(hall, plan)

    def test_pays_below_nought_alone(self):
        hall = Hall((9, 10), [("x", [Sure("a", (-1, 1), "y"), Sure("b", (-2, 1), "x")]),
                              ("y", [Even("a", (-3, 2), ["x", "y"])])])
        for plan in all_plans(hall):
            self.assertTrue(all(worth[0] < 0 for worth in self.are_worths(hall, plan)))

    def test_numbers_of_many_figures(self):
        numbers = Numbers(3)
        for share in SHARES:
            hall = some_hall(numbers, share, [2, 1, 0, 3], LONG)
            for plan in all_plans(hall):
                self.are_worths(hall, plan)

    def test_as_many_rooms_as_they_come(self):
        numbers = Numbers(4)
        for large in [2, 30, 10 ** 12, LONG]:
            hall = some_hall(numbers, (99, 100), [6] * 12, large)
            for plan in [[0] * 12, [5] * 12, some_plan(numbers, hall)]:
                self.are_worths(hall, plan)

    def test_somewhat_more_rooms(self):
        hall = some_hall(Numbers(5), (99, 100), [2] * 15, 9)
        self.are_worths(hall, [1] * 15)

    def test_arguments_by_their_names(self):
        self.assertEqual(worths_of(hall=read(THREE), plan=[0, None, 1]), [ONE, NOUGHT, NOUGHT])

    def test_things_that_are_no_lists(self):
        for text in ["share 0", "share 1/2\nroom x", THREE]:
            hall = read(text)
            for thing in NO_LISTS:
                self.no_plan(lambda: worths_of(hall, thing), None)

    def test_lists_that_are_no_plans(self):
        hall = read(THREE)
        for plan in [[], [0], [0, None], [0, None, 0, 0], [Stubborn()]]:
            self.no_plan(lambda: worths_of(hall, plan), None)
        for room, right in enumerate([[0, 1, 2], [None], [0, 1]]):
            for thing in ODD + [None, -1, 0, 1, 2, 3, LONG, -LONG]:
                if type(thing) not in (int, type(None)) or thing not in right:
                    plan = [1, None, 1]
                    plan[room] = thing
                    self.no_plan(lambda: worths_of(hall, plan), room)
        self.no_plan(lambda: worths_of(hall, [3, 0, 2]), 0)
        self.no_plan(lambda: worths_of(hall, [2, 0, 2]), 1)
        self.no_plan(lambda: worths_of(read("share 0"), [None]), None)

    def test_what_is_refused_is_not_changed(self):
        hall = read(THREE)
        for thing in [[3, None, 0], [[0], None, 0], [0, None], {0: [0]}, [0, [None], {}]]:
            kept = copy.deepcopy(thing)
            self.is_refused(NoPlan, lambda: worths_of(hall, thing))
            self.assertEqual(thing, kept)

    def test_lists_told_are_the_askers_own(self):
        hall = read(THREE)
        plan = [0, None, 0]
        one = worths_of(hall, plan)
        other = worths_of(hall, plan)
        other[0] = (9, 1)
        other.clear()
        plan[2] = 1
        self.assertEqual(one, [ONE, NOUGHT, (41, 6)])
        self.assertEqual(worths_of(hall, plan), [ONE, NOUGHT, NOUGHT])
        one.append(ONE)
        plan[2] = 0
        self.assertEqual(worths_of(hall, plan), [ONE, NOUGHT, (41, 6)])
        self.assertEqual(hall.offers(0)[0], ("a", ONE, [(1, ONE)]))


class Visits(Told):
    def test_rooms_without_doors(self):
        hall = Hall((9, 10), [("x", []), ("y", [])])
        self.assertEqual(visits_from(hall, [None, None], 0), [ONE, NOUGHT])
        self.assertEqual(visits_from(hall, [None, None], 1), [NOUGHT, ONE])

    def test_a_door_to_its_own_room(self):
        for share, wanted in [((0, 1), ONE), (HALF, (2, 1)), ((99, 100), (100, 1)), ((37, 91), (91, 54))]:
            hall = Hall(share, [("x", [Sure("a", (-7, 3), "x")])])
            self.assertEqual(visits_from(hall, [0], 0), [wanted])

    def test_one_way(self):
        hall = Hall((2, 3), [("x", [Sure("a", ONE, "y")]), ("y", [Sure("a", ONE, "z")]), ("z", [])])
        self.assertEqual(visits_from(hall, [0, 0, None], 0), [ONE, (2, 3), (4, 9)])
        self.assertEqual(visits_from(hall, [0, 0, None], 1), [NOUGHT, ONE, (2, 3)])
        self.assertEqual(visits_from(hall, [0, 0, None], 2), [NOUGHT, NOUGHT, ONE])

    def test_several_ways(self):
        hall = read(THREE)
        self.assertEqual(visits_from(hall, [1, None, 1], 0), [(4, 3), NOUGHT, (2, 3)])
        self.assertEqual(visits_from(hall, [1, None, 1], 1), [NOUGHT, ONE, NOUGHT])
        self.assertEqual(visits_from(hall, [1, None, 1], 2), [NOUGHT, NOUGHT, (2, 1)])
        # x = z / 8, z = 1 + z / 4 + x / 6, y = z / 8 + x / 3.
        self.assertEqual(visits_from(hall, [2, None, 0], 2), [(6, 35), (8, 35), (48, 35)])

    def test_each_plan_of_small_halls(self):
        numbers = Numbers(6)
        for share in SHARES:
            for doors in [[], [0], [1], [3], [0, 2], [2, 0, 3], [2, 2, 2], [1, 0, 1, 0, 2]]:
                hall = some_hall(numbers, share, doors, 20)
                for plan in all_plans(hall):
                    self.are_visits(hall, plan)

    def test_share_nought_visits_the_start_alone(self):
        hall = some_hall(Numbers(7), (0, 1), [2, 0, 3], 9)
        for plan in all_plans(hall):
            for start in range(3):
                wanted = [ONE if room == start else NOUGHT for room in range(3)]
                self.assertEqual(visits_from(hall, plan, start), wanted)

    def test_without_rooms_to_stay_in_all_visits_come_to_the_whole(self):
        for share in SHARES:
            hall = some_hall(Numbers(8), share, [2, 1, 3], 40)
            for plan in all_plans(hall):
                for start in range(3):
                    visits = self.fractions(visits_from(hall, plan, start), 3)
                    self.assertEqual(sum(visits), 1 / (1 - Fraction(*share)))

    def test_numbers_of_many_figures(self):
        numbers = Numbers(9)
        for share in [(0, 1), (37, 91), (99, 100)]:
            hall = some_hall(numbers, share, [2, 1, 0, 3], LONG)
            for plan in all_plans(hall):
                self.are_visits(hall, plan)

    def test_as_many_rooms_as_they_come(self):
        numbers = Numbers(10)
        for large in [2, 30, 10 ** 6]:
            hall = some_hall(numbers, (99, 100), [6] * 10 + [0, 1], large)
            self.are_visits(hall, some_plan(numbers, hall))

    def test_arguments_by_their_names(self):
        self.assertEqual(visits_from(hall=read(THREE), plan=[1, None, 1], start=0), [(4, 3), NOUGHT, (2, 3)])

    def test_starts_that_are_no_rooms(self):
        for doors in [[], [0], [1], [2, 0, 3]]:
            hall = some_hall(Numbers(11), HALF, doors, 9)
            plan = all_plans(hall)[-1]
            many = len(doors)
            for thing in ODD + [None, many, many + 1, -1, -2, -many, -many - 1, LONG, -LONG, "a"]:
                if type(thing) is not int or not 0 <= thing < many:
                    self.assertIs(self.is_refused(NoRoom, lambda: visits_from(hall, plan, thing)).room, thing)

    def test_things_that_are_no_plans(self):
        hall = read(THREE)
        for thing in NO_LISTS + [[], [0], [0, None], [0, None, 0, 0]]:
            for start in range(3):
                self.no_plan(lambda: visits_from(hall, thing, start), None)
        for thing in ODD + [None, -1, 3, LONG]:
            self.no_plan(lambda: visits_from(hall, [thing, None, 0], 1), 0)
        for thing in ODD + [0, 1, -1]:
            self.no_plan(lambda: visits_from(hall, [0, thing, 0], 1), 1)
        for thing in ODD + [None, -1, 2, LONG]:
            self.no_plan(lambda: visits_from(hall, [0, None, thing], 1), 2)

    def test_the_plan_is_refused_ahead_of_the_start(self):
        hall = read(THREE)
        for plan, room in [(None, None), ([], None), ([3, None, 0], 0), ([0, 0, 0], 1), ([0, None, None], 2)]:
            for start in [3, -1, None, True, "x", Stubborn()]:
                self.no_plan(lambda: visits_from(hall, plan, start), room)

    def test_lists_told_are_the_askers_own(self):
        hall = read(THREE)
        plan = [1, None, 1]
        wanted = [(4, 3), NOUGHT, (2, 3)]
        one = visits_from(hall, plan, 0)
        other = visits_from(hall, plan, 0)
        other[0] = (9, 1)
        other.clear()
        plan[0] = 0
        self.assertEqual(one, wanted)
        self.assertEqual(visits_from(hall, plan, 0), [ONE, HALF, NOUGHT])
        one.append(ONE)
        plan[0] = 1
        self.assertEqual(visits_from(hall, plan, 0), wanted)
        self.assertEqual(worths_of(hall, plan), [(-2, 1), NOUGHT, NOUGHT])


if __name__ == "__main__":
    unittest.main()
