"""[26] goals and the fewest steps, [27] the forced steps, [28] sure and fated rooms; [12] NoRoom and [2] over them."""

import itertools
import unittest
from fractions import Fraction

from chancehall.doors import Even, Mixed, Sure, Toss
from chancehall.errors import HallError, NoRoom
from chancehall.halls import Hall
from chancehall.texts import read, show
from chancehall.ways import fated_rooms, fewest_steps, forced_steps, sure_rooms
from chancehall.wholes import is_whole

LONG = 10 ** 59 + 7
NOUGHT = (0, 1)
ONE = (1, 1)
HALF = (1, 2)
ASKED = [fewest_steps, forced_steps, sure_rooms, fated_rooms]


# A thing with a mind of its own about being asked, to be refused all the same.
class Stubborn:
    def __eq__(self, other):
        raise RuntimeError("not to be compared")

    def __bool__(self):
        raise RuntimeError("not to be asked for its truth")

    def __len__(self):
        raise RuntimeError("not to be measured")


# A thing that says of itself that it is whatever it is held against.
class Flatterer:
    def __eq__(self, other):
        return True

    def __hash__(self):
        return 0


ODD = [True, False, 0.0, 1.0, 0.5, 1j, b"", b"x", "", "0", "x", "None", [], [0], [None], (), (0,), (0, 1), (1, 2, 3),
       {}, {0: 0}, {0}, Fraction(0), Fraction(1), object(), Stubborn(), Flatterer(), list, Hall]


class Numbers:
    """Numbers that are always the same ones, without any order that meets the eye."""

    def __init__(self, seed):
        self.state = seed

    def below(self, many):
        found = 0
        while found < many:
            self.state = (self.state * 6364136223846793005 + 1442695040888963407) % 2 ** 64
            found = (found << 31) + (self.state >> 33) + 1
        return found % many

    def fraction(self, large):
        return Fraction(self.below(2 * large + 1) - large, 1 + self.below(large))


def pair(number):
    return (Fraction(number).numerator, Fraction(number).denominator)


def names_of(many):
    return [chr(97 + room) for room in range(many)]


def some_door(numbers, name, rooms, large):
    """A door of any sort, to any of the rooms."""
    pay = pair(numbers.fraction(large))
    told = [rooms[numbers.below(len(rooms))] for k in range(1 + numbers.below(8))]
    sort = numbers.below(4)
    if sort == 0:
        return Sure(name, pay, told[0])
    if sort == 1:
        return Even(name, pay, told)
    if sort == 2:
        bottom = 1 + numbers.below(large)
        return Toss(name, pay, pair(Fraction(numbers.below(bottom + 1), bottom)), told[0], told[-1])
    parts = [1 + numbers.below(large) for k in told]
    return Mixed(name, pay, [(room, pair(Fraction(part, sum(parts)))) for room, part in zip(told, parts)])


def some_hall(numbers, share, doors, large):
    """A hall whose rooms have so many doors each."""
    rooms = names_of(len(doors))
    return Hall(share, [
        (room, [some_door(numbers, "d" + chr(97 + door), rooms, large) for door in range(many)])
        for room, many in zip(rooms, doors)
    ])


def all_plans(hall):
    doors = [len(hall.offers(room)) for room in range(hall.size())]
    return [list(plan) for plan in itertools.product(*[range(many) if many else [None] for many in doors])]


NEVER = 10 ** 6


def doors_of(hall, room):
    """For each door of the room the rooms behind it."""
    return [[to for to, chance in ways] for name, pay, ways in hall.offers(room)]


def told_steps(counted):
    return [None if many >= NEVER else many for many in counted]


def fewest_model(hall, goals):
    """The least over all ways, asked for as often as there are rooms."""
    counted = [0 if room in goals else NEVER for room in range(hall.size())]
    for k in range(hall.size()):
        for room in range(hall.size()):
            for door in doors_of(hall, room):
                counted[room] = min([counted[room]] + [1 + counted[to] for to in door])
    return told_steps(counted)


def forced_model(hall, goals):
    """The greatest over the doors of the least over their ways, asked for as often as there are rooms."""
    counted = [0 if room in goals else NEVER for room in range(hall.size())]
    for k in range(hall.size()):
        for room in range(hall.size()):
            doors = doors_of(hall, room)
            if room not in goals and doors:
                counted[room] = 1 + max(min(counted[to] for to in door) for door in doors)
    return told_steps(counted)


def behind(hall, goals, plan, room):
    """The rooms to which the plan comes from this one, itself too, not looking behind goals."""
    found = [room]
    for one in found:
        if one not in goals and plan[one] is not None:
            found += [to for to in doors_of(hall, one)[plan[one]] if to not in found]
    return found


def comes_surely(hall, goals, plan, room):
    """Whether the plan comes to a goal wherever it has come to."""
    return all(set(behind(hall, goals, plan, one)) & set(goals) for one in behind(hall, goals, plan, room))


def is_lot(hall, goals, lot):
    """Whether each room of the lot is a goal or has ways to one, through the lot, by doors that don't leave it."""
    good = {room for room in lot if room in goals}
    for k in range(hall.size()):
        for room in lot:
            for door in doors_of(hall, room):
                if set(door) <= set(lot) and set(door) & good:
                    good.add(room)
    return good == set(lot)


def greatest_lot(hall, goals):
    """All rooms of all such lots."""
    found = set()
    for many in range(hall.size() + 1):
        for lot in itertools.combinations(range(hall.size()), many):
            if is_lot(hall, goals, lot):
                found |= set(lot)
    return [room in found for room in range(hall.size())]


def fated_model(hall, goals):
    """Not fated are rooms that can be kept away, and, again and again, those that lead there and are no goals."""
    lost = {room for room, many in enumerate(forced_model(hall, goals)) if many is None}
    for k in range(hall.size()):
        for room in range(hall.size()):
            if room not in goals and any(set(door) & lost for door in doors_of(hall, room)):
                lost.add(room)
    return [room not in lost for room in range(hall.size())]


def some_goals(numbers, many):
    """A list of goals, perhaps of none, perhaps some of them twice."""
    if many == 0:
        return []
    return [numbers.below(many) for k in range(numbers.below(4))]


def small_halls(seed):
    """Tuples (hall, goals), of which all plans and lots can be tried."""
    numbers = Numbers(seed)
    told = []
    for doors in [[], [0], [1], [3], [0, 2], [1, 1, 1], [2, 0, 3], [2, 2, 2, 0], [1, 2, 1, 2], [1, 0, 3, 0, 2, 1]]:
        for k in range(12):
            hall = some_hall(numbers, HALF, doors, 3)
            told.append((hall, some_goals(numbers, hall.size())))
    return told


def sparse_halls(seed):
    """Tuples (hall, goals) with doors of one or two ways each, so that many rooms are kept apart."""
    numbers = Numbers(seed)
    told = []
    for k in range(300):
        many = 2 + numbers.below(5)
        names = names_of(many)
        rooms = []
        for name in names:
            doors = []
            for door in range(numbers.below(3)):
                ways = [names[numbers.below(many)] for way in range(1 + numbers.below(2))]
                doors.append(Even("d" + chr(97 + door), ONE, ways))
            rooms.append((name, doors))
        told.append((Hall((9, 10), rooms), some_goals(numbers, many)))
    return told


def corridor(many):
    """Rooms in a row; each has a door on to the next one and one back to the first."""
    names = names_of(many)
    rooms = [(name, [Sure("on", ONE, names[min(room + 1, many - 1)]), Sure("back", ONE, names[0])])
             for room, name in enumerate(names)]
    return Hall(HALF, rooms)


class Told(unittest.TestCase):
    def is_refused(self, kind, make):
        with self.assertRaises(HallError) as taken:
            make()
        self.assertIs(type(taken.exception), kind)
        return taken.exception

    def asked(self, ask, hall, goals, wanted):
        kept = (list(goals), show(hall))
        told = ask(hall, goals)
        self.assertEqual(told, wanted)
        self.assertIs(type(told), list)
        self.assertEqual((goals, show(hall)), kept)
        return told

    def steps(self, ask, hall, goals, wanted):
        for many in self.asked(ask, hall, goals, wanted):
            self.assertTrue(many is None or is_whole(many), many)

    def truths(self, ask, hall, goals, wanted):
        for truth in self.asked(ask, hall, goals, wanted):
            self.assertIs(type(truth), bool)


class Goals(Told):
    def test_no_room(self):
        for ask in ASKED:
            self.asked(ask, Hall(HALF, []), [], [])

    def test_order_and_repeats_do_not_matter(self):
        for hall, goals in small_halls(41):
            for ask in ASKED:
                wanted = ask(hall, sorted(set(goals)))
                for row in [goals, goals[::-1], goals + goals, sorted(goals), (goals * 70)[:200]]:
                    self.asked(ask, hall, row, wanted)

    def test_all_rooms_are_goals(self):
        for hall, goals in small_halls(42):
            many = hall.size()
            for ask, wanted in [(fewest_steps, 0), (forced_steps, 0), (sure_rooms, True), (fated_rooms, True)]:
                self.asked(ask, hall, list(range(many)), [wanted] * many)

    def test_no_goals(self):
        for hall, goals in small_halls(43):
            many = hall.size()
            for ask, wanted in [(fewest_steps, None), (forced_steps, None), (sure_rooms, False), (fated_rooms, False)]:
                self.asked(ask, hall, [], [wanted] * many)

    def test_things_that_are_no_rooms(self):
        for many in [0, 1, 3]:
            hall = Hall(HALF, [(name, [Sure("a", ONE, "a")]) for name in names_of(many)])
            for thing in ODD + [None, many, many + 1, -1, -2, -many - 1, LONG, -LONG, "a"]:
                rows = [[thing], [thing, thing]]
                if many > 0:
                    rows += [[0, thing], [thing, 0], [0, many - 1, thing, 0], [0] * 50 + [thing]]
                for row in rows:
                    for ask in ASKED:
                        self.assertIs(self.is_refused(NoRoom, lambda: ask(hall, row)).room, thing)

    def test_the_first_thing_that_is_no_room_is_told(self):
        hall = Hall(HALF, [(name, [Sure("a", ONE, "a")]) for name in names_of(3)])
        wrong = [3, -1, True, None, "b", Stubborn(), [0], LONG]
        for one, other in itertools.permutations(wrong, 2):
            for row in [[one, other], [0, one, other], [2, one, 1, other], [one, 0, other, one]]:
                for ask in ASKED:
                    self.assertIs(self.is_refused(NoRoom, lambda: ask(hall, row)).room, one)

    def test_what_is_refused_is_not_changed(self):
        hall = read("share 1/2\nroom x\ndoor a 1 sure x")
        inner = [0]
        row = [0, inner, 1]
        for ask in ASKED:
            self.is_refused(NoRoom, lambda: ask(hall, row))
            self.assertEqual(row, [0, [0], 1])
            self.assertIs(row[1], inner)

    def test_arguments_by_their_names(self):
        hall = corridor(3)
        self.assertEqual(fewest_steps(hall=hall, goals=[1]), [1, 0, 1 + 1])
        self.assertEqual(forced_steps(hall=hall, goals=[0]), [0, None, None])
        self.assertEqual(sure_rooms(hall=hall, goals=[2]), [True, True, True])
        self.assertEqual(fated_rooms(hall=hall, goals=[1]), [False, True, False])

    def test_lists_told_are_the_askers_own(self):
        hall = corridor(3)
        for ask in ASKED:
            goals = [2, 0]
            wanted = ask(hall, [0, 2])
            one = ask(hall, goals)
            other = ask(hall, goals)
            other[0] = None
            other.clear()
            goals[0] = 1
            goals.pop()
            self.assertEqual(one, wanted)
            self.assertEqual(ask(hall, goals), ask(hall, [1]))
            one.append(0)
            self.assertEqual(ask(hall, [2, 0]), wanted)

    def test_somewhat_more_rooms(self):
        names = names_of(20)
        hall = Hall(HALF, [(name, [Sure("a", ONE, names[min(room + 1, 19)])]) for room, name in enumerate(names)])
        for ask in [fewest_steps, forced_steps]:
            self.steps(ask, hall, [19], list(range(19, -1, -1)))
        for ask in [sure_rooms, fated_rooms]:
            self.truths(ask, hall, [19], [True] * 20)


class FewestSteps(Told):
    def test_a_corridor(self):
        for many in [1, 2, 12]:
            hall = corridor(many)
            self.steps(fewest_steps, hall, [many - 1], list(range(many - 1, -1, -1)))
            self.steps(fewest_steps, hall, [0], [0] + [1] * (many - 1))
        self.steps(fewest_steps, corridor(6), [2, 4], [2, 1, 0, 1, 0, 3])

    def test_rooms_with_no_way_to_a_goal(self):
        hall = Hall(HALF, [("x", [Sure("a", ONE, "x")]), ("y", []), ("z", [Even("a", ONE, ["x", "y"])]),
                           ("w", [Sure("a", ONE, "z"), Sure("b", ONE, "w")])])
        self.steps(fewest_steps, hall, [0], [0, None, 1, 2])
        self.steps(fewest_steps, hall, [1], [None, 0, 1, 2])
        self.steps(fewest_steps, hall, [2], [None, None, 0, 1])
        self.steps(fewest_steps, hall, [3], [None, None, None, 0])
        self.steps(fewest_steps, hall, [1, 3], [None, 0, 1, 0])

    def test_ways_of_chance_nought_are_none(self):
        hall = Hall(HALF, [("x", [Toss("a", ONE, NOUGHT, "y", "x"), Mixed("b", ONE, [("y", NOUGHT), ("x", ONE)])]),
                           ("y", []), ("z", [Toss("a", ONE, ONE, "y", "x")])])
        self.steps(fewest_steps, hall, [1], [None, 0, 1])
        self.steps(fewest_steps, hall, [0], [0, None, None])

    def test_doors_of_goals_are_not_looked_at(self):
        hall = Hall(HALF, [("x", [Sure("a", ONE, "y")]), ("y", [Sure("a", ONE, "z")]), ("z", [])])
        self.steps(fewest_steps, hall, [0, 2], [0, 1, 0])
        self.steps(fewest_steps, hall, [0, 1], [0, 0, None])

    def test_the_least_over_all_ways_of_all_doors(self):
        hall = Hall(HALF, [
            ("far", [Sure("a", ONE, "mid"), Mixed("b", ONE, [("far", HALF), ("mid", (1, 4)), ("near", (1, 4))])]),
            ("mid", [Sure("a", ONE, "near")]), ("near", [Sure("a", ONE, "near"), Even("b", ONE, ["far", "end"])]),
            ("end", []),
        ])
        self.steps(fewest_steps, hall, [3], [2, 2, 1, 0])

    def test_small_halls(self):
        for hall, goals in small_halls(44) + sparse_halls(45):
            self.steps(fewest_steps, hall, goals, fewest_model(hall, goals))

    def test_as_many_rooms_and_doors_as_they_come(self):
        numbers = Numbers(46)
        for doors in [[6] * 12, [1] * 12, [0, 1, 2, 1, 0, 1, 2, 1, 0, 1, 2, 1]]:
            hall = some_hall(numbers, HALF, doors, 3)
            for goals in [[0], [11, 3], list(range(12))]:
                self.steps(fewest_steps, hall, goals, fewest_model(hall, goals))


class ForcedSteps(Told):
    def test_a_hand_that_can_keep_away(self):
        for many in [2, 5, 12]:
            hall = corridor(many)
            self.steps(forced_steps, hall, [many - 1], [None] * (many - 1) + [0])
            self.steps(forced_steps, hall, [0], [0] + [None] * (many - 1))

    def test_a_hand_that_can_not(self):
        names = names_of(12)
        hall = Hall(HALF, [(name, [Sure("on", ONE, names[min(room + 1, 11)]),
                                   Sure("far", ONE, names[min(room + 3, 11)])]) for room, name in enumerate(names)])
        self.steps(forced_steps, hall, [11], list(range(11, -1, -1)))
        # The hand passes by room 4: from 3 to 6, from 2 to 3 or 5.
        self.steps(forced_steps, hall, [11, 4], [9, 8, 7, 6, 0, 6, 5, 4, 3, 2, 1, 0])

    def test_rooms_without_doors(self):
        hall = Hall(HALF, [("x", []), ("y", [Sure("a", ONE, "x")]), ("z", [Sure("a", ONE, "y")])])
        self.steps(forced_steps, hall, [1], [None, 0, 1])
        self.steps(forced_steps, hall, [0], [0, 1, 2])
        self.steps(forced_steps, hall, [2], [None, None, 0])

    def test_the_greatest_over_doors_of_the_least_over_ways(self):
        hall = Hall(HALF, [
            ("x", [Sure("a", ONE, "end"), Even("b", ONE, ["z", "x", "y"]), Sure("c", ONE, "y")]),
            ("y", [Sure("a", ONE, "end")]), ("z", [Sure("a", ONE, "w")]), ("w", [Sure("a", ONE, "y")]), ("end", []),
        ])
        self.steps(forced_steps, hall, [4], [2, 1, 3, 2, 0])
        self.steps(forced_steps, hall, [1], [None, 0, 2, 1, None])

    def test_a_way_that_may_not_be_taken_for_long_is_a_way(self):
        hall = Hall(HALF, [("x", [Toss("a", ONE, (1, LONG), "end", "x")]), ("end", [])])
        self.steps(forced_steps, hall, [1], [1, 0])

    def test_ways_of_chance_nought_are_none(self):
        hall = Hall(HALF, [("x", [Toss("a", ONE, NOUGHT, "y", "x")]), ("y", []),
                           ("z", [Toss("a", ONE, ONE, "y", "x")])])
        self.steps(forced_steps, hall, [1], [None, 0, 1])
        self.steps(forced_steps, hall, [0], [0, None, None])

    def test_small_halls(self):
        for hall, goals in small_halls(47) + sparse_halls(48):
            self.steps(forced_steps, hall, goals, forced_model(hall, goals))

    def test_they_are_none_just_where_some_plan_keeps_away(self):
        for hall, goals in small_halls(49) + sparse_halls(50):
            told = forced_steps(hall, goals)
            plans = all_plans(hall)
            for room in range(hall.size()):
                away = any(not set(behind(hall, goals, plan, room)) & set(goals) for plan in plans)
                self.assertEqual(told[room] is None, away)

    def test_as_many_rooms_and_doors_as_they_come(self):
        numbers = Numbers(51)
        for doors in [[6] * 12, [1] * 12, [0, 1, 2, 1, 0, 1, 2, 1, 0, 1, 2, 1]]:
            hall = some_hall(numbers, HALF, doors, 3)
            for goals in [[0], [11, 3], list(range(12))]:
                self.steps(forced_steps, hall, goals, forced_model(hall, goals))


class SureRooms(Told):
    def test_a_corridor(self):
        for many in [1, 2, 12]:
            self.truths(sure_rooms, corridor(many), [many - 1], [True] * many)
            self.truths(sure_rooms, corridor(many), [0], [True] * many)

    def test_a_toss_that_can_be_tried_again(self):
        hall = Hall(HALF, [("x", [Toss("a", ONE, (1, LONG), "end", "x")]), ("end", [])])
        self.truths(sure_rooms, hall, [1], [True, True])

    def test_a_door_one_of_whose_ways_leaves_the_lot(self):
        hall = Hall(HALF, [("x", [Even("a", ONE, ["end", "pit"])]), ("end", []), ("pit", [])])
        self.truths(sure_rooms, hall, [1], [False, True, False])
        self.truths(sure_rooms, hall, [1, 2], [True, True, True])

    def test_another_door_that_does_not_leave_it(self):
        hall = Hall(HALF, [("x", [Even("a", ONE, ["end", "pit"]), Sure("b", ONE, "y")]),
                           ("y", [Even("a", ONE, ["x", "y", "end"])]), ("end", []), ("pit", [Sure("a", ONE, "pit")])])
        self.truths(sure_rooms, hall, [2], [True, True, True, False])

    def test_a_lot_that_shrinks_several_times(self):
        names = names_of(6)
        # Each room has one door, to the goal or to the next room; the last one leads to a pit.
        rooms = [(name, [Even("a", ONE, ["goal", (names + ["pit"])[room + 1]])]) for room, name in enumerate(names)]
        hall = Hall(HALF, rooms + [("goal", []), ("pit", [])])
        self.truths(sure_rooms, hall, [6], [False] * 6 + [True, False])
        self.truths(sure_rooms, hall, [6, 3], [True] * 4 + [False, False, True, False])

    def test_the_only_ways_to_a_goal_lead_through_rooms_outside(self):
        hall = Hall(HALF, [("x", [Sure("a", ONE, "y"), Sure("b", ONE, "x")]), ("y", [Even("a", ONE, ["end", "pit"])]),
                           ("end", []), ("pit", [])])
        self.truths(sure_rooms, hall, [2], [False, False, True, False])

    def test_doors_of_goals_are_not_looked_at(self):
        hall = Hall(HALF, [("x", [Sure("a", ONE, "y")]), ("y", [Sure("a", ONE, "pit")]), ("pit", [])])
        self.truths(sure_rooms, hall, [1], [True, True, False])

    def test_small_halls_by_all_lots(self):
        for hall, goals in small_halls(52) + sparse_halls(53):
            self.truths(sure_rooms, hall, goals, greatest_lot(hall, goals))

    def test_small_halls_by_all_plans(self):
        for hall, goals in small_halls(54) + sparse_halls(55):
            plans = all_plans(hall)
            wanted = [any(comes_surely(hall, goals, plan, room) for plan in plans) for room in range(hall.size())]
            self.truths(sure_rooms, hall, goals, wanted)

    def test_as_many_rooms_and_doors_as_they_come(self):
        numbers = Numbers(56)
        for doors in [[6] * 12, [1] * 12, [0, 1, 2, 1, 0, 1, 2, 1, 0, 1, 2, 1]]:
            hall = some_hall(numbers, HALF, doors, 3)
            for goals in [[0], [11, 3]]:
                told = sure_rooms(hall, goals)
                self.assertTrue(is_lot(hall, goals, [room for room in range(12) if told[room]]))


class FatedRooms(Told):
    def test_by_every_plan(self):
        hall = Hall(HALF, [("x", [Sure("a", ONE, "y"), Even("b", ONE, ["x", "end"])]), ("y", [Sure("a", ONE, "end")]),
                           ("end", [])])
        self.truths(fated_rooms, hall, [2], [True, True, True])
        self.truths(fated_rooms, hall, [1], [False, True, False])

    def test_by_some_plan_alone(self):
        hall = Hall(HALF, [("x", [Sure("a", ONE, "end"), Sure("b", ONE, "x")]), ("end", [])])
        self.truths(fated_rooms, hall, [1], [False, True])
        self.truths(sure_rooms, hall, [1], [True, True])

    def test_rooms_that_lead_to_one_that_can_be_kept_away(self):
        hall = Hall(HALF, [("x", [Even("a", ONE, ["end", "y"])]), ("y", [Even("a", ONE, ["end", "pit"])]), ("end", []),
                           ("pit", [])])
        self.steps(forced_steps, hall, [2], [1, 1, 0, None])
        self.truths(fated_rooms, hall, [2], [False, False, True, False])
        # Through a goal none is led to.
        self.truths(fated_rooms, hall, [2, 1], [True, True, True, False])

    def test_doors_of_goals_are_not_looked_at(self):
        hall = Hall(HALF, [("x", [Sure("a", ONE, "y")]), ("y", [Sure("a", ONE, "pit"), Sure("b", ONE, "y")]),
                           ("pit", [])])
        self.truths(fated_rooms, hall, [1], [True, True, False])
        self.truths(fated_rooms, hall, [0], [True, False, False])

    def test_rooms_without_doors(self):
        hall = Hall(HALF, [("x", []), ("y", [])])
        self.truths(fated_rooms, hall, [1], [False, True])

    def test_small_halls(self):
        for hall, goals in small_halls(57) + sparse_halls(58):
            self.truths(fated_rooms, hall, goals, fated_model(hall, goals))

    def test_small_halls_by_all_plans(self):
        for hall, goals in small_halls(59) + sparse_halls(60):
            plans = all_plans(hall)
            wanted = [all(comes_surely(hall, goals, plan, room) for plan in plans) for room in range(hall.size())]
            self.truths(fated_rooms, hall, goals, wanted)

    def test_as_many_rooms_and_doors_as_they_come(self):
        numbers = Numbers(61)
        for doors in [[6] * 12, [1] * 12, [0, 1, 2, 1, 0, 1, 2, 1, 0, 1, 2, 1]]:
            hall = some_hall(numbers, HALF, doors, 3)
            for goals in [[0], [11, 3]]:
                self.truths(fated_rooms, hall, goals, fated_model(hall, goals))


if __name__ == "__main__":
    unittest.main()
