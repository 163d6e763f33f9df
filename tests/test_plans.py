"""[18] plans and the first plan, [19] looks; [12] NoRoom and [2] over them."""

import copy
import itertools
import unittest
from fractions import Fraction

from chancehall.doors import Even, Mixed, Sure, Toss
from chancehall.errors import HallError, NoPlan, NoRoom
from chancehall.halls import Hall
from chancehall.plans import check_plan, first_plan, looks
from chancehall.ratios import is_ratio
from chancehall.texts import read

LONG = 10 ** 59 + 7
HALF = (1, 2)


# A thing with a mind of its own about being asked, to be refused all the same.
class Stubborn:
    def __eq__(self, other):
        raise RuntimeError("not to be compared")

    def __bool__(self):
        raise RuntimeError("not to be asked for its truth")

    def __len__(self):
        raise RuntimeError("not to be measured")


# A thing that says of itself that it is whatever it is held against.
class Flatterer:
    def __eq__(self, other):
        return True

    def __hash__(self):
        return 0


ODD = [True, False, 0.0, 1.0, 0.5, 1j, b"", b"x", "", "0", "x", "None", [], [0], [None], (), (0,), (0, 1), (1, 2, 3),
       {}, {0: 0}, {0}, Fraction(0), Fraction(1), object(), Stubborn(), Flatterer(), list, Hall]
NO_LISTS = [thing for thing in ODD if not isinstance(thing, list)] + [
    None, 0, 1, 3, (0, None, 0), {0: 0, 1: None, 2: 0}, range(3), "012"]

THREE = "\n".join([
    "share 1/2", "room x", "door a 1 sure y", "door b -3/2 even x z", "door c 0 toss 1/3 z y", "room y", "room z",
    "door a 5 mixed x 1/4 y 1/4 z 1/2", "door b 0 sure z",
])


class Refusing(unittest.TestCase):
    def is_refused(self, kind, make):
        with self.assertRaises(HallError) as taken:
            make()
        self.assertIs(type(taken.exception), kind)
        return taken.exception

    def no_plan(self, hall, plan, room):
        found = self.is_refused(NoPlan, lambda: check_plan(hall, plan)).room
        self.assertEqual((type(found), found), (type(room), room))


def hall_of(doors):
    """A hall whose rooms have so many doors, each of them leading on to the next room."""
    names = [chr(97 + room) for room in range(len(doors))]
    return Hall(HALF, [
        (name, [Sure("d" + chr(97 + door), (1, 1), names[(room + 1) % len(names)]) for door in range(doors[room])])
        for room, name in enumerate(names)
    ])


def all_plans(doors):
    return [list(plan) for plan in itertools.product(*[range(many) if many else [None] for many in doors])]


class FirstPlan(unittest.TestCase):
    def test_no_room(self):
        self.assertEqual(first_plan(hall_of([])), [])

    def test_rooms_with_and_without_doors(self):
        for doors in [[0], [1], [6], [0, 0], [0, 1], [1, 0], [2, 0, 3], [0, 4, 0, 1], [6] * 12, [0] * 12]:
            hall = hall_of(doors)
            wanted = [0 if many else None for many in doors]
            found = first_plan(hall)
            self.assertEqual(found, wanted)
            self.assertEqual([type(thing) for thing in found], [type(thing) for thing in wanted])
            self.assertIs(type(found), list)
            self.assertIs(check_plan(hall, found), True)

    def test_argument_by_its_name(self):
        self.assertEqual(first_plan(hall=read(THREE)), [0, None, 0])

    def test_lists_told_are_the_askers_own(self):
        hall = read(THREE)
        one = first_plan(hall)
        other = first_plan(hall)
        other[0] = 2
        other.clear()
        self.assertEqual(one, [0, None, 0])
        one.append(0)
        self.assertEqual(first_plan(hall), [0, None, 0])


class CheckPlan(Refusing):
    def test_each_plan_of_small_halls(self):
        for doors in [[], [0], [1], [3], [0, 2], [2, 0, 3], [1, 1, 1], [6, 0, 2]]:
            hall = hall_of(doors)
            for plan in all_plans(doors):
                kept = list(plan)
                self.assertIs(check_plan(hall, plan), True)
                self.assertEqual(plan, kept)

    def test_arguments_by_their_names(self):
        self.assertIs(check_plan(hall=read(THREE), plan=[2, None, 1]), True)

    def test_things_that_are_no_lists(self):
        for doors in [[], [0], [1], [2, 0, 3]]:
            for thing in NO_LISTS:
                self.no_plan(hall_of(doors), thing, None)

    def test_lists_too_short_and_too_long(self):
        for doors in [[], [0], [1], [2, 0, 3], [0, 0]]:
            plan = [0 if many else None for many in doors]
            for wrong in [plan + [0], plan + [None], plan + plan + [0], [Stubborn()] * (len(doors) + 1)]:
                self.no_plan(hall_of(doors), wrong, None)
            for many in range(len(doors)):
                self.no_plan(hall_of(doors), plan[:many], None)
                self.no_plan(hall_of(doors), ["x"] * many, None)

    def test_things_that_fit_no_room_with_doors(self):
        doors = [2, 0, 3]
        for room in [0, 2]:
            for thing in ODD + [None, -1, -2, -3, doors[room], doors[room] + 1, LONG, -LONG]:
                for plan in all_plans(doors):
                    plan[room] = thing
                    self.no_plan(hall_of(doors), plan, room)

    def test_things_that_fit_no_room_without_doors(self):
        doors = [2, 0, 3]
        for thing in ODD + [0, 1, -1, 2, LONG]:
            for plan in all_plans(doors):
                plan[1] = thing
                self.no_plan(hall_of(doors), plan, 1)

    def test_the_first_room_that_does_not_fit(self):
        doors = [2, 0, 3, 1]
        wrong = [2, 0, -1, None]
        right = [1, None, 2, 0]
        hall = hall_of(doors)
        for faults in itertools.product([False, True], repeat=4):
            plan = [wrong[room] if faults[room] else right[room] for room in range(4)]
            if any(faults):
                self.no_plan(hall, plan, faults.index(True))
            else:
                self.assertIs(check_plan(hall, plan), True)

    def test_as_many_rooms_and_doors_as_they_come(self):
        hall = hall_of([6] * 12)
        self.assertIs(check_plan(hall, [5] * 12), True)
        for room in range(12):
            self.no_plan(hall, [5] * room + [6] * (12 - room), room)
        long = hall_of([1] * 20 + [0])
        self.assertIs(check_plan(long, [0] * 20 + [None]), True)
        self.no_plan(long, [0] * 21, 20)

    def test_what_is_refused_is_not_changed(self):
        hall = hall_of([2, 0, 3])
        for thing in [[2, None, 0], [[0], None, 0], [0, None], {0: [0]}, [0, [None], {}]]:
            kept = copy.deepcopy(thing)
            self.is_refused(NoPlan, lambda: check_plan(hall, thing))
            self.assertEqual(thing, kept)

    def test_a_plan_that_is_changed_is_asked_anew(self):
        hall = hall_of([2, 0, 3])
        plan = [0, None, 0]
        self.assertIs(check_plan(hall, plan), True)
        plan[0] = 2
        self.no_plan(hall, plan, 0)
        plan[0] = 1
        self.assertIs(check_plan(hall, plan), True)
        plan.pop()
        self.no_plan(hall, plan, None)


def modelled(hall, room, worths):
    """The looks as a model reckons them."""
    told = []
    for name, pay, ways in hall.offers(room):
        behind = sum(Fraction(*chance) * Fraction(*worths[to]) for to, chance in ways)
        look = Fraction(*pay) + Fraction(*hall.share) * behind
        told.append((look.numerator, look.denominator))
    return told


class Looks(Refusing):
    def are_looks(self, hall, room, worths, wanted):
        found = looks(hall, room, worths)
        self.assertEqual(found, wanted)
        self.assertIs(type(found), list)
        self.assertTrue(all(is_ratio(look) for look in found))

    def test_no_doors(self):
        self.are_looks(read(THREE), 1, [(1, 1), (2, 1), (3, 1)], [])
        self.are_looks(hall_of([0]), 0, [(5, 1)], [])

    def test_one_door(self):
        hall = Hall((1, 3), [("x", [Toss("a", (-1, 2), (1, 4), "y", "x")]), ("y", [])])
        self.are_looks(hall, 0, [(0, 1), (0, 1)], [(-1, 2)])
        self.are_looks(hall, 0, [(4, 1), (0, 1)], [(1, 2)])
        self.are_looks(hall, 0, [(0, 1), (4, 1)], [(-1, 6)])
        self.are_looks(hall, 0, [(4, 1), (-12, 1)], [(-1, 2)])

    def test_several_doors(self):
        hall = read(THREE)
        self.are_looks(hall, 0, [(0, 1), (0, 1), (0, 1)], [(1, 1), (-3, 2), (0, 1)])
        self.are_looks(hall, 0, [(2, 1), (-4, 1), (6, 1)], [(-1, 1), HALF, (-1, 3)])
        self.are_looks(hall, 2, [(2, 1), (-4, 1), (6, 1)], [(25, 4), (3, 1)])

    def test_arguments_by_their_names(self):
        self.assertEqual(looks(hall=read(THREE), room=2, worths=[(2, 1), (-4, 1), (6, 1)]), [(25, 4), (3, 1)])

    def test_share_nought(self):
        hall = Hall((0, 1), [("x", [Sure("a", (-7, 2), "x"), Sure("b", (0, 1), "x")])])
        self.are_looks(hall, 0, [(LONG, 7)], [(-7, 2), (0, 1)])

    def test_pays_and_worths_of_all_signs(self):
        numbers = [(0, 1), (1, 1), (-1, 1), (7, 3), (-7, 3), (LONG, LONG + 1), (-LONG, 2)]
        for pay, worth, other in itertools.product(numbers, repeat=3):
            hall = Hall((99, 100), [
                ("x", [Sure("a", pay, "y"), Even("b", pay, ["y", "x", "y"]), Toss("c", (0, 1), (0, 1), "x", "y"),
                       Mixed("d", pay, [("x", (1, 9)), ("y", (2, 9)), ("x", (2, 3))])]),
                ("y", [Sure("a", other, "x")]),
            ])
            for room in range(2):
                self.are_looks(hall, room, [worth, other], modelled(hall, room, [worth, other]))

    def test_as_many_ways_as_they_come(self):
        names = [chr(97 + room) for room in range(12)]
        hall = Hall((99, 100), [
            (name, [Even("d" + chr(97 + door), (7 * door - 3, 7),
                         [names[(room * 5 + door + k * k) % 12] for k in range(8)])
                    for door in range(6)])
            for room, name in enumerate(names)
        ])
        worths = [((LONG + room) * (room - 5) + 1, LONG + room) for room in range(12)]
        for room in range(12):
            self.are_looks(hall, room, worths, modelled(hall, room, worths))

    def test_numbers_that_are_no_rooms(self):
        for doors in [[], [0], [1], [2, 0, 3]]:
            hall = hall_of(doors)
            worths = [(1, 1)] * len(doors)
            for thing in ODD + [None, len(doors), len(doors) + 1, -1, -2, -len(doors) - 1, LONG, -LONG, "a"]:
                self.assertIs(self.is_refused(NoRoom, lambda: looks(hall, thing, worths)).room, thing)

    def test_worths_stay(self):
        hall = read(THREE)
        worths = [(2, 1), (-4, 1), (6, 1)]
        for room in range(3):
            looks(hall, room, worths)
            self.assertEqual(worths, [(2, 1), (-4, 1), (6, 1)])

    def test_lists_told_are_the_askers_own(self):
        hall = read(THREE)
        worths = [(2, 1), (-4, 1), (6, 1)]
        one = looks(hall, 2, worths)
        other = looks(hall, 2, worths)
        other.clear()
        worths[0] = (9, 1)
        self.assertEqual(one, [(25, 4), (3, 1)])
        worths[0] = (2, 1)
        one.append((0, 1))
        self.assertEqual(looks(hall, 2, worths), [(25, 4), (3, 1)])


if __name__ == "__main__":
    unittest.main()
