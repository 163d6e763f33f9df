"""[38] a run by a plan along numbers; [18] NoPlan, [12] NoRoom and [2] over it."""

import copy
import itertools
import math
import unittest
from fractions import Fraction

from chancehall.doors import Even, Mixed, Sure, Toss
from chancehall.errors import HallError, NoPlan, NoRoom
from chancehall.halls import Hall
from chancehall.plans import first_plan
from chancehall.ratios import is_ratio
from chancehall.rounds import plan_rounds
from chancehall.runs import run_of
from chancehall.texts import read, show

LONG = 10 ** 59 + 7
NOUGHT = (0, 1)
ONE = (1, 1)
HALF = (1, 2)
SHARES = [(0, 1), (1, 2), (2, 3), (99, 100)]


# A thing with a mind of its own about being asked, to be refused all the same.
class Stubborn:
    def __eq__(self, other):
        raise RuntimeError("not to be compared")

    def __bool__(self):
        raise RuntimeError("not to be asked for its truth")

    def __len__(self):
        raise RuntimeError("not to be measured")


# A thing that says of itself that it is whatever it is held against.
class Flatterer:
    def __eq__(self, other):
        return True

    def __hash__(self):
        return 0


ODD = [True, False, 0.0, 1.0, 0.5, 1j, b"", b"x", "", "0", "x", "None", [], [0], [None], (), (0,), (0, 1), (1, 2, 3),
       {}, {0: 0}, {0}, Fraction(0), Fraction(1), object(), Stubborn(), Flatterer(), list, Hall]
NO_LISTS = [thing for thing in ODD if not isinstance(thing, list)] + [
    None, 0, 1, 3, (0, None, 0), {0: 0, 1: None, 2: 0}, range(3), "012"]
NO_ROOMS = ODD + [None, -1, -3, 3, 4, LONG, -LONG, "y"]

THREE = "\n".join([
    "share 1/2", "room x", "door a 1 sure y", "door b -3/2 even x z", "door c 0 toss 1/3 z y", "room y", "room z",
    "door a 5 mixed x 1/4 y 1/4 z 1/2", "door b 0 sure z",
])


class Numbers:
    """Numbers that are always the same ones, without any order that meets the eye."""

    def __init__(self, seed):
        self.state = seed

    def below(self, many):
        found = 0
        while found < many:
            self.state = (self.state * 6364136223846793005 + 1442695040888963407) % 2 ** 64
            found = (found << 31) + (self.state >> 33) + 1
        return found % many

    def fraction(self, large):
        return Fraction(self.below(2 * large + 1) - large, 1 + self.below(large))


def pair(number):
    return (Fraction(number).numerator, Fraction(number).denominator)


def some_door(numbers, name, rooms, large):
    """A door of any sort, to any of the rooms."""
    pay = pair(numbers.fraction(large))
    told = [rooms[numbers.below(len(rooms))] for k in range(1 + numbers.below(8))]
    sort = numbers.below(4)
    if sort == 0:
        return Sure(name, pay, told[0])
    if sort == 1:
        return Even(name, pay, told)
    if sort == 2:
        bottom = 1 + numbers.below(large)
        return Toss(name, pay, pair(Fraction(numbers.below(bottom + 1), bottom)), told[0], told[-1])
    parts = [1 + numbers.below(large) for k in told]
    return Mixed(name, pay, [(room, pair(Fraction(part, sum(parts)))) for room, part in zip(told, parts)])


def some_hall(numbers, share, doors, large):
    """A hall whose rooms have so many doors each."""
    rooms = [chr(97 + room) for room in range(len(doors))]
    return Hall(share, [
        (room, [some_door(numbers, "d" + chr(97 + door), rooms, large) for door in range(many)])
        for room, many in zip(rooms, doors)
    ])


def parts_hall(numbers, share, doors, whole):
    """A hall of so many doors each, all of whose chances are parts of a whole number."""
    rooms = [chr(97 + room) for room in range(len(doors))]
    told = []
    for room, many in zip(rooms, doors):
        made = []
        for door in range(many):
            ends = [rooms[numbers.below(len(rooms))] for k in range(whole)]
            pairs = [(end, pair(Fraction(1, whole))) for end in ends]
            made.append(Mixed("d" + chr(97 + door), pair(numbers.fraction(4)), pairs))
        told.append((room, made))
    return Hall(share, told)


def all_plans(hall):
    doors = [len(hall.offers(room)) for room in range(hall.size())]
    return [list(plan) for plan in itertools.product(*[range(many) if many else [None] for many in doors])]


def some_plans(hall):
    """Some of the plans of a hall."""
    doors = [len(hall.offers(room)) for room in range(hall.size())]
    return [[(room + turn) % one if one else None for room, one in enumerate(doors)] for turn in range(3)]


def model_step(ways, number):
    """The room to which the number leads, by the widths of the ways."""
    rest = Fraction(*number) - math.floor(Fraction(*number))
    for room, chance in ways:
        if rest < Fraction(*chance):
            return room
        rest -= Fraction(*chance)
    raise RuntimeError("the chances of the ways come to 1")


def model_run(hall, plan, room, numbers, often=Fraction(1)):
    """The run by its first step and the run from there on, which is paid the share as often."""
    if not numbers or plan[room] is None:
        return ([], Fraction(0), room)
    name, pay, ways = hall.offers(room)[plan[room]]
    coming = model_step(ways, numbers[0])
    steps, paid, end = model_run(hall, plan, coming, numbers[1:], often * Fraction(*hall.share))
    return ([(room, plan[room], pay)] + steps, often * Fraction(*pay) + paid, end)


class Told(unittest.TestCase):
    def is_refused(self, kind, make):
        with self.assertRaises(HallError) as taken:
            make()
        self.assertIs(type(taken.exception), kind)
        return taken.exception

    def no_plan(self, make, room):
        found = self.is_refused(NoPlan, make).room
        self.assertEqual((type(found), found), (type(room), room))

    def run_told(self, hall, plan, start, numbers):
        """The run that is told; its form held against [38], all that was handed in left as it was."""
        kept = (show(hall), list(plan), list(numbers))
        told = run_of(hall, plan, start, numbers)
        self.assertEqual((show(hall), plan, numbers), kept)
        self.assertIs(type(told), tuple)
        self.assertEqual(len(told), 3)
        self.assertIs(type(told[0]), list)
        for step in told[0]:
            self.assertIs(type(step), tuple)
            self.assertEqual([type(part) for part in step], [int, int, tuple])
        self.assertTrue(is_ratio(told[1]))
        self.assertIs(type(told[2]), int)
        return told

    def follows_the_model(self, hall, plan, start, numbers):
        told = self.run_told(hall, plan, start, numbers)
        steps, paid, room = model_run(hall, plan, start, numbers)
        self.assertEqual(told, (steps, pair(paid), room))
        return told


class RunOf(Told):
    def test_no_numbers(self):
        hall = read(THREE)
        for plan in all_plans(hall):
            for start in [0, 1, 2]:
                self.assertEqual(self.run_told(hall, plan, start, []), ([], NOUGHT, start))

    def test_a_room_without_doors_at_the_start(self):
        hall = read(THREE)
        for numbers in [[NOUGHT], [HALF, (1, 3)], [(-LONG, 7)] * 200]:
            self.assertEqual(self.run_told(hall, [0, None, 0], 1, numbers), ([], NOUGHT, 1))

    def test_a_room_without_doors_on_the_way(self):
        hall = read(THREE)
        for more in [[], [NOUGHT], [HALF] * 199]:
            told = self.run_told(hall, [0, None, 0], 0, [HALF] + more)
            self.assertEqual(told, ([(0, 0, ONE)], ONE, 1))
            # From z to x by less than a quarter, from there surely to y; what is left over is not looked at.
            told = self.run_told(hall, [0, None, 0], 2, [(1, 5), NOUGHT] + more)
            self.assertEqual(told, ([(2, 0, (5, 1)), (0, 0, ONE)], (11, 2), 1))

    def test_each_pay_with_its_share(self):
        hall = Hall((1, 3), [("x", [Sure("a", ONE, "y")]), ("y", [Sure("a", (-6, 1), "z")]),
                             ("z", [Sure("a", (45, 2), "x")])])
        wanted = [(NOUGHT, 0), (ONE, 1), ((-1, 1), 2), ((3, 2), 0), ((3 * 27 + 2, 54), 1)]
        for many, end in enumerate(wanted):
            told = self.run_told(hall, [0, 0, 0], 0, [NOUGHT] * many)
            self.assertEqual(told[1:], end)
            steps = [(0, 0, ONE), (1, 0, (-6, 1)), (2, 0, (45, 2)), (0, 0, ONE)]
            self.assertEqual(told[0], steps[:many])

    def test_share_nought_pays_the_first_step_alone(self):
        hall = Hall((0, 1), [("x", [Sure("a", (7, 3), "y")]), ("y", [Sure("a", (-6, 1), "x")])])
        for many in [1, 2, 3, 200]:
            told = self.run_told(hall, [0, 0], 0, [NOUGHT] * many)
            self.assertEqual(told[1], (7, 3))
            self.assertEqual(len(told[0]), many)
            self.assertEqual(self.run_told(hall, [0, 0], 1, [NOUGHT] * many)[1], (-6, 1))

    def test_the_plans_own_door(self):
        hall = Hall(HALF, [("x", [Sure("a", ONE, "y"), Sure("b", (3, 1), "x"), Sure("c", (5, 1), "z")]),
                           ("y", []), ("z", [])])
        self.assertEqual(run_of(hall, [0, None, None], 0, [NOUGHT]), ([(0, 0, ONE)], ONE, 1))
        self.assertEqual(run_of(hall, [1, None, None], 0, [NOUGHT]), ([(0, 1, (3, 1))], (3, 1), 0))
        self.assertEqual(run_of(hall, [2, None, None], 0, [NOUGHT]), ([(0, 2, (5, 1))], (5, 1), 2))

    def end(self, doors, number):
        """The room where one step from the first room ends; there are four rooms x, y, z, w."""
        hall = Hall(HALF, [("x", doors), ("y", []), ("z", []), ("w", [])])
        return self.run_told(hall, [0, None, None, None], 0, [number])[2]

    def test_just_at_the_sum_of_the_first_chances(self):
        door = [Mixed("a", ONE, [("y", (1, 4)), ("z", (1, 3)), ("w", (5, 12))])]
        small = Fraction(1, LONG)
        for number, wanted in [(0, 1), (small, 1), (Fraction(1, 5), 1), (Fraction(1, 4) - small, 1),
                               (Fraction(1, 4), 2), (Fraction(1, 4) + small, 2), (Fraction(7, 12) - small, 2),
                               (Fraction(7, 12), 3),
                               (Fraction(7, 12) + small, 3), (1 - small, 3)]:
            for whole in [0, 1, 2, -1, -2, LONG, -LONG]:
                self.assertEqual(self.end(door, pair(number + whole)), wanted)

    def test_whole_numbers_lead_to_the_first_way(self):
        door = [Toss("a", ONE, (1, LONG), "z", "y")]
        for number in [0, 1, -1, 2, 17, -LONG, LONG]:
            self.assertEqual(self.end(door, (number, 1)), 2)

    def test_numbers_below_nought_and_above_one(self):
        door = [Even("a", ONE, ["y", "z", "w"])]
        # The rest of -1/4 is 3/4, that of -2/5 is 3/5, that of 13/12 is 1/12.
        for number, wanted in [((-1, 4), 3), ((-2, 5), 2), ((-3, 4), 1), ((-9, 4), 3), ((13, 12), 1), ((17, 12), 2),
                               ((23, 12), 3), ((-1, 3), 3), ((-2, 3), 2), ((4, 3), 2), ((5, 3), 3)]:
            self.assertEqual(self.end(door, number), wanted)

    def test_ways_in_the_order_in_which_they_are_told(self):
        self.assertEqual(self.end([Mixed("a", ONE, [("w", HALF), ("y", HALF)])], (1, 4)), 3)
        self.assertEqual(self.end([Mixed("a", ONE, [("w", HALF), ("y", HALF)])], (3, 4)), 1)
        # A room told twice has all its chance where it is told first; one of chance nought has no way.
        joined = [Mixed("a", ONE, [("w", (1, 4)), ("z", NOUGHT), ("y", HALF), ("w", (1, 4))])]
        self.assertEqual([self.end(joined, pair(Fraction(k, 8))) for k in range(8)], [3] * 4 + [1] * 4)
        self.assertEqual(self.end([Toss("a", ONE, NOUGHT, "z", "y")], NOUGHT), 1)
        self.assertEqual([self.end([Toss("a", ONE, ONE, "z", "y")], (k, 9)) for k in [1, 2, 4, 5, 7, 8]], [2] * 6)

    def test_back_to_the_same_room(self):
        hall = Hall(HALF, [("x", [Toss("a", ONE, (1, 3), "x", "y")]), ("y", [Sure("b", (2, 1), "x")])])
        told = self.run_told(hall, [0, 0], 0, [NOUGHT, (1, 4), (1, 3), (9, 10), (1, 2)])
        steps = [(0, 0, ONE), (0, 0, ONE), (0, 0, ONE), (1, 0, (2, 1)), (0, 0, ONE)]
        self.assertEqual(told, (steps, pair(Fraction(7, 4) + Fraction(2, 8) + Fraction(1, 16)), 1))

    def test_three_rooms_by_hand(self):
        # x by b to z (1/2 and more), z by a to z (1/2 and more), z to y (from 1/4 to below 1/2).
        told = self.run_told(read(THREE), [1, None, 0], 0, [HALF, (3, 4), (1, 4), NOUGHT])
        steps = [(0, 1, (-3, 2)), (2, 0, (5, 1)), (2, 0, (5, 1))]
        self.assertEqual(told, (steps, pair(Fraction(-3, 2) + Fraction(5, 2) + Fraction(5, 4)), 1))

    def test_small_halls(self):
        numbers = Numbers(301)
        for share in SHARES:
            for doors in [[0], [1], [3], [0, 2], [2, 0, 3], [2, 2, 2, 0], [1, 1, 3, 2, 2, 1]]:
                for large in [1, 3, LONG]:
                    hall = some_hall(numbers, share, doors, large)
                    for plan in some_plans(hall):
                        row = [pair(numbers.fraction(9)) for k in range(numbers.below(12))]
                        self.follows_the_model(hall, plan, numbers.below(hall.size()), row)

    def test_as_many_numbers_as_they_come(self):
        numbers = Numbers(302)
        for large in [1, 10, LONG]:
            hall = some_hall(numbers, (99, 100), [6] * 12, large)
            row = [pair(numbers.fraction(LONG)) for k in range(200)]
            told = self.follows_the_model(hall, [room % 6 for room in range(12)], 5, row)
            self.assertEqual(len(told[0]), 200)

    def test_each_step_leads_from_the_room_where_the_one_ahead_ends(self):
        numbers = Numbers(303)
        hall = some_hall(numbers, HALF, [2, 3, 1, 2], 5)
        for plan in some_plans(hall):
            row = [pair(numbers.fraction(20)) for k in range(30)]
            for many in range(30):
                steps, paid, room = run_of(hall, plan, 2, row[:many])
                longer = run_of(hall, plan, 2, row[:many + 1])
                self.assertEqual(longer[0][:many], steps)
                self.assertEqual(longer[0][many][:2], (room, plan[room]))


class Means(Told):
    def test_the_mean_of_all_rows_of_numbers_is_the_plans_round(self):
        numbers = Numbers(311)
        for share in SHARES:
            for doors, whole, most in [([1], 3, 4), ([2, 0], 2, 5), ([1, 0, 2], 3, 4), ([2, 1, 0], 4, 3),
                                       ([2, 2], 6, 3)]:
                hall = parts_hall(numbers, share, doors, whole)
                parts = [pair(Fraction(k, whole)) for k in range(whole)]
                for plan in all_plans(hall):
                    rounds = plan_rounds(hall, plan, most)
                    for many, start in itertools.product(range(most + 1), range(hall.size())):
                        rows = itertools.product(parts, repeat=many)
                        paid = sum(Fraction(*run_of(hall, plan, start, list(row))[1]) for row in rows)
                        self.assertEqual(pair(paid / whole ** many), rounds[many][start])

    def test_the_rooms_where_they_end_are_as_likely_as_the_chances(self):
        door = Mixed("a", ONE, [("z", (1, 6)), ("x", (1, 2)), ("y", (1, 3))])
        hall = Hall(HALF, [("x", [door]), ("y", []), ("z", [])])
        ends = [run_of(hall, [0, None, None], 0, [pair(Fraction(k, 6))])[2] for k in range(6)]
        self.assertEqual(ends, [2, 0, 0, 0, 1, 1])


class Refused(Told):
    def test_what_is_no_plan(self):
        for text, start in [("share 0", 0), ("share 1/2\nroom x", 0), (THREE, 2)]:
            for thing in NO_LISTS:
                self.no_plan(lambda: run_of(read(text), thing, start, [HALF]), None)
        hall = read(THREE)
        for plan in [[], [0], [0, None], [0, None, 0, 0], [Stubborn()]]:
            self.no_plan(lambda: run_of(hall, plan, 0, []), None)
        for room, right in enumerate([[0, 1, 2], [None], [0, 1]]):
            for thing in ODD + [None, -1, 0, 1, 2, 3, LONG, -LONG]:
                if type(thing) not in (int, type(None)) or thing not in right:
                    plan = [1, None, 1]
                    plan[room] = thing
                    self.no_plan(lambda: run_of(hall, plan, 0, [HALF]), room)
        self.no_plan(lambda: run_of(hall, [3, 0, 2], 1, []), 0)
        self.no_plan(lambda: run_of(hall, [2, 0, 2], 1, []), 1)
        for thing in [[3, None, 0], [[0], None, 0], [0, None], {0: [0]}, [0, [None], {}]]:
            kept = copy.deepcopy(thing)
            self.is_refused(NoPlan, lambda: run_of(hall, thing, 0, []))
            self.assertEqual(thing, kept)

    def test_what_is_no_room(self):
        hall = read(THREE)
        for thing in NO_ROOMS:
            for row in [[], [HALF]]:
                found = self.is_refused(NoRoom, lambda: run_of(hall, [0, None, 0], thing, row)).room
                self.assertIs(found, thing)
        for thing in ODD + [None, 0, -1, 1]:
            self.assertIs(self.is_refused(NoRoom, lambda: run_of(Hall(HALF, []), [], thing, [])).room, thing)

    def test_the_plan_stands_ahead_of_the_room(self):
        hall = read(THREE)
        for thing in NO_ROOMS:
            for plan, room in [(None, None), ([], None), ([0, 0, 0], 1), ([3, None, 0], 0), (Stubborn(), None)]:
                self.no_plan(lambda: run_of(hall, plan, thing, []), room)


class Own(Told):
    def test_arguments_by_their_names(self):
        hall = Hall(HALF, [("x", [Sure("a", ONE, "x")])])
        self.assertEqual(run_of(hall=hall, plan=[0], start=0, numbers=[HALF]), ([(0, 0, ONE)], ONE, 0))

    def test_lists_told_are_the_askers_own(self):
        hall = read(THREE)
        plan = [1, None, 0]
        row = [HALF, (1, 4), NOUGHT]
        wanted = ([(0, 1, (-3, 2)), (2, 0, (5, 1))], ONE, 1)
        one = run_of(hall, plan, 0, row)
        other = run_of(hall, plan, 0, row)
        self.assertEqual(one, wanted)
        self.assertIsNot(one[0], other[0])
        other[0].clear()
        self.assertEqual(one, wanted)
        one[0].append(None)
        self.assertEqual(run_of(hall, plan, 0, row), wanted)
        told = run_of(hall, plan, 0, row)
        plan[0] = 0
        plan.clear()
        row[0] = NOUGHT
        row.clear()
        self.assertEqual(told, wanted)
        self.assertEqual(run_of(hall, [1, None, 0], 0, [HALF, (1, 4), NOUGHT]), wanted)

    def test_no_numbers_tell_a_list_of_ones_own(self):
        hall = read(THREE)
        run_of(hall, first_plan(hall), 0, [])[0].append(1)
        self.assertEqual(run_of(hall, first_plan(hall), 0, []), ([], NOUGHT, 0))


if __name__ == "__main__":
    unittest.main()
