"""[29] the chances of a plan, [30] the greatest and the least chances; [26] NoRoom, [18] NoPlan and [2] over them."""

import copy
import itertools
import unittest
from fractions import Fraction

from chancehall.doors import Even, Mixed, Sure, Toss
from chancehall.errors import HallError, NoPlan, NoRoom
from chancehall.goals import chances_of, greatest_chances, least_chances
from chancehall.halls import Hall
from chancehall.plans import check_plan, first_plan
from chancehall.ratios import is_ratio
from chancehall.texts import read, show
from chancehall.ways import fated_rooms, fewest_steps, forced_steps, sure_rooms

LONG = 10 ** 59 + 7
NOUGHT = (0, 1)
ONE = (1, 1)
HALF = (1, 2)
SHARES = [(0, 1), (1, 2), (99, 100)]


# A thing with a mind of its own about being asked, to be refused all the same.
class Stubborn:
    def __eq__(self, other):
        raise RuntimeError("not to be compared")

    def __bool__(self):
        raise RuntimeError("not to be asked for its truth")

    def __len__(self):
        raise RuntimeError("not to be measured")


# A thing that says of itself that it is whatever it is held against.
class Flatterer:
    def __eq__(self, other):
        return True

    def __hash__(self):
        return 0


ODD = [True, False, 0.0, 1.0, 0.5, 1j, b"", b"x", "", "0", "x", "None", [], [0], [None], (), (0,), (0, 1), (1, 2, 3),
       {}, {0: 0}, {0}, Fraction(0), Fraction(1), object(), Stubborn(), Flatterer(), list, Hall]
NO_LISTS = [thing for thing in ODD if not isinstance(thing, list)] + [
    None, 0, 1, 3, (0, None, 0), {0: 0, 1: None, 2: 0}, range(3), "012"]

THREE = "\n".join([
    "share 1/2", "room x", "door a 1 sure y", "door b -3/2 even x z", "door c 0 toss 1/3 z y", "room y", "room z",
    "door a 5 mixed x 1/4 y 1/4 z 1/2", "door b 0 sure z",
])


class Numbers:
    """Numbers that are always the same ones, without any order that meets the eye."""

    def __init__(self, seed):
        self.state = seed

    def below(self, many):
        found = 0
        while found < many:
            self.state = (self.state * 6364136223846793005 + 1442695040888963407) % 2 ** 64
            found = (found << 31) + (self.state >> 33) + 1
        return found % many

    def fraction(self, large):
        return Fraction(self.below(2 * large + 1) - large, 1 + self.below(large))


def pair(number):
    return (Fraction(number).numerator, Fraction(number).denominator)


def names_of(many):
    return [chr(97 + room) for room in range(many)]


def some_door(numbers, name, rooms, large):
    """A door of any sort, to any of the rooms."""
    pay = pair(numbers.fraction(large))
    told = [rooms[numbers.below(len(rooms))] for k in range(1 + numbers.below(8))]
    sort = numbers.below(4)
    if sort == 0:
        return Sure(name, pay, told[0])
    if sort == 1:
        return Even(name, pay, told)
    if sort == 2:
        bottom = 1 + numbers.below(large)
        return Toss(name, pay, pair(Fraction(numbers.below(bottom + 1), bottom)), told[0], told[-1])
    parts = [1 + numbers.below(large) for k in told]
    return Mixed(name, pay, [(room, pair(Fraction(part, sum(parts)))) for room, part in zip(told, parts)])


def some_hall(numbers, share, doors, large):
    """A hall whose rooms have so many doors each."""
    rooms = names_of(len(doors))
    return Hall(share, [
        (room, [some_door(numbers, "d" + chr(97 + door), rooms, large) for door in range(many)])
        for room, many in zip(rooms, doors)
    ])


def all_plans(hall):
    doors = [len(hall.offers(room)) for room in range(hall.size())]
    return [list(plan) for plan in itertools.product(*[range(many) if many else [None] for many in doors])]


def behind(hall, plan, room):
    """The rooms to which the plan comes from this one, itself too."""
    found = [room]
    for one in found:
        if plan[one] is not None:
            found += [to for to, chance in hall.offers(one)[plan[one]][2] if to not in found]
    return found


def mean(ways, numbers):
    """The sum of chance times number over the ways."""
    return sum((Fraction(*chance) * numbers[to] for to, chance in ways), Fraction(0))


def some_goals(numbers, many):
    """A list of goals, perhaps of none, perhaps some of them twice."""
    if many == 0:
        return []
    return [numbers.below(many) for k in range(numbers.below(4))]


def small_halls(seed):
    """Tuples (hall, goals), of which all plans can be tried."""
    numbers = Numbers(seed)
    told = []
    for doors in [[], [0], [1], [3], [0, 2], [1, 1, 1], [2, 0, 3], [2, 2, 2, 0], [0, 2, 1, 2], [1, 0, 3, 0, 2, 1]]:
        for large in [1, 3, 3, 50]:
            hall = some_hall(numbers, SHARES[len(told) % 3], doors, large)
            told.append((hall, some_goals(numbers, hall.size())))
    return told


def sparse_halls(seed, most):
    """Tuples (hall, goals) with doors of one or two ways each, so that hands can stay among rooms for ever."""
    numbers = Numbers(seed)
    told = []
    for k in range(most):
        many = 2 + numbers.below(5)
        names = names_of(many)
        rooms = []
        for name in names:
            doors = []
            for door in range(numbers.below(3)):
                ways = [names[numbers.below(many)] for way in range(1 + numbers.below(2))]
                chance = [HALF, (1, 3), (3, 4)][numbers.below(3)]
                doors.append(Toss("d" + chr(97 + door), ONE, chance, ways[0], ways[-1]))
            rooms.append((name, doors))
        told.append((Hall((9, 10), rooms), some_goals(numbers, many)))
    return told


def large_halls(seed):
    """Tuples (hall, goals) of twelve rooms; some of them can be left by no door, or have none."""
    numbers = Numbers(seed)
    told = []
    for doors in [[6] * 12, [0, 0] + [6] * 10, [1] * 11 + [0], [0, 1, 2, 1, 0, 1, 2, 1, 0, 1, 2, 1]]:
        for large in [1, 4, LONG]:
            told += [(some_hall(numbers, HALF, doors, large), goals) for goals in [[0], [11, 3, 11], [4]]]
    return told


def walk(many, chance):
    """Rooms in a row; from each one it goes on by the chance and back by the rest; the ends have no doors."""
    names = names_of(many)
    rooms = [(names[room], [Toss("a", ONE, chance, names[room + 1], names[room - 1])]) for room in range(1, many - 1)]
    return Hall(HALF, [(names[0], [])] + rooms + [(names[-1], [])])


class Told(unittest.TestCase):
    def is_refused(self, kind, make):
        with self.assertRaises(HallError) as taken:
            make()
        self.assertIs(type(taken.exception), kind)
        return taken.exception

    def no_plan(self, make, room):
        found = self.is_refused(NoPlan, make).room
        self.assertEqual((type(found), found), (type(room), room))

    def refuses_plans(self, ask):
        """What is no plan, of any kind, is refused by the call, which is given a hall and a thing."""
        for text in ["share 0", "share 1/2\nroom x", THREE]:
            for thing in NO_LISTS:
                self.no_plan(lambda: ask(read(text), thing), None)
        hall = read(THREE)
        for plan in [[], [0], [0, None], [0, None, 0, 0], [Stubborn()]]:
            self.no_plan(lambda: ask(hall, plan), None)
        for room, right in enumerate([[0, 1, 2], [None], [0, 1]]):
            for thing in ODD + [None, -1, 0, 1, 2, 3, LONG, -LONG]:
                if type(thing) not in (int, type(None)) or thing not in right:
                    plan = [1, None, 1]
                    plan[room] = thing
                    self.no_plan(lambda: ask(hall, plan), room)
        self.no_plan(lambda: ask(hall, [3, 0, 2]), 0)
        self.no_plan(lambda: ask(hall, [2, 0, 2]), 1)
        for thing in [[3, None, 0], [[0], None, 0], [0, None], {0: [0]}, [0, [None], {}]]:
            kept = copy.deepcopy(thing)
            self.is_refused(NoPlan, lambda: ask(hall, thing))
            self.assertEqual(thing, kept)

    def refuses_goals(self, ask):
        """The first thing among goals that is no room's number is refused; the call is given a hall and goals."""
        for many in [0, 1, 3]:
            hall = Hall(HALF, [(name, [Sure("a", ONE, "a")]) for name in names_of(many)])
            for thing in ODD + [None, many, many + 1, -1, -many - 1, LONG, -LONG, "a"]:
                rows = [[thing], [thing, thing]]
                if many > 0:
                    rows += [[0, thing], [thing, 0], [0, many - 1, thing, 0], [0] * 50 + [thing]]
                for row in rows:
                    self.assertIs(self.is_refused(NoRoom, lambda: ask(hall, row)).room, thing)
        hall = Hall(HALF, [(name, [Sure("a", ONE, "a")]) for name in names_of(3)])
        for one, other in itertools.permutations([3, -1, True, None, "b", Stubborn(), [0], LONG], 2):
            for row in [[one, other], [0, one, other], [2, one, 1, other], [one, 0, other, one]]:
                self.assertIs(self.is_refused(NoRoom, lambda: ask(hall, row)).room, one)
        inner = [0]
        row = [0, inner, 1]
        self.is_refused(NoRoom, lambda: ask(hall, row))
        self.assertEqual(row, [0, [0], 1])
        self.assertIs(row[1], inner)

    def fractions(self, told, many):
        self.assertIs(type(told), list)
        self.assertEqual(len(told), many)
        for number in told:
            self.assertTrue(is_ratio(number), number)
        return [Fraction(*number) for number in told]

    def are_chances(self, hall, goals, plan):
        """The chances of the plan, held against their own sums."""
        kept = (list(goals), list(plan), show(hall))
        told = chances_of(hall, goals, plan)
        chances = self.fractions(told, hall.size())
        self.assertEqual((goals, plan, show(hall)), kept)
        for room, chance in enumerate(chances):
            if room in goals:
                self.assertEqual(chance, 1)
            elif not set(behind(hall, plan, room)) & set(goals):
                self.assertEqual(chance, 0)
            else:
                self.assertEqual(chance, mean(hall.offers(room)[plan[room]][2], chances))
                self.assertTrue(0 < chance <= 1)
        return told

    def is_told(self, ask, hall, goals):
        """The chances that are told, of which the plan is one of the hall and has just these."""
        kept = (list(goals), show(hall))
        told = ask(hall, goals)
        self.assertEqual((goals, show(hall)), kept)
        self.assertIs(type(told), tuple)
        self.assertEqual([type(part) for part in told], [list, list])
        self.assertIs(check_plan(hall, told[0]), True)
        self.assertEqual(self.are_chances(hall, goals, told[0]), told[1])
        return [Fraction(*chance) for chance in told[1]]

    def nought_and_one(self, chances, never, surely):
        """They are nought just where never is None, and 1 just where surely is True."""
        self.assertEqual([chance == 0 for chance in chances], [step is None for step in never])
        self.assertEqual([chance == 1 for chance in chances], surely)

    def both(self, hall, goals):
        """The greatest and the least chances, held against what ways alone tell, and against each door."""
        most = self.is_told(greatest_chances, hall, goals)
        fewest = self.is_told(least_chances, hall, goals)
        self.nought_and_one(most, fewest_steps(hall, goals), sure_rooms(hall, goals))
        self.nought_and_one(fewest, forced_steps(hall, goals), fated_rooms(hall, goals))
        for room in range(hall.size()):
            self.assertLessEqual(fewest[room], most[room])
            for name, pay, ways in hall.offers(room) if room not in goals else []:
                self.assertLessEqual(mean(ways, most), most[room])
                self.assertGreaterEqual(mean(ways, fewest), fewest[room])
        return (most, fewest)


class ChancesOf(Told):
    def test_no_room(self):
        self.assertEqual(chances_of(Hall(HALF, []), [], []), [])

    def test_one_room(self):
        for doors, plan in [([], [None]), ([Sure("a", ONE, "x")], [0])]:
            hall = Hall(HALF, [("x", doors)])
            self.assertEqual(chances_of(hall, [], plan), [NOUGHT])
            self.assertEqual(chances_of(hall, [0], plan), [ONE])
            self.assertEqual(chances_of(hall, [0, 0, 0], plan), [ONE])

    def test_rooms_without_doors(self):
        hall = Hall(HALF, [("x", []), ("y", []), ("z", [Even("a", ONE, ["x", "y", "x"])])])
        self.assertEqual(chances_of(hall, [0], [None, None, 0]), [ONE, NOUGHT, (2, 3)])
        self.assertEqual(chances_of(hall, [1], [None, None, 0]), [NOUGHT, ONE, (1, 3)])
        self.assertEqual(chances_of(hall, [1, 0], [None, None, 0]), [ONE, ONE, ONE])
        self.assertEqual(chances_of(hall, [2], [None, None, 0]), [NOUGHT, NOUGHT, ONE])

    def test_no_goals_and_all_rooms(self):
        for hall, goals in small_halls(71):
            for plan in all_plans(hall)[:10]:
                self.assertEqual(chances_of(hall, [], plan), [NOUGHT] * hall.size())
                self.assertEqual(chances_of(hall, list(range(hall.size())), plan), [ONE] * hall.size())

    def test_order_and_repeats_do_not_matter(self):
        for hall, goals in small_halls(72):
            plan = first_plan(hall)
            wanted = chances_of(hall, sorted(set(goals)), plan)
            for row in [goals, goals[::-1], goals + goals, (goals * 70)[:200]]:
                self.assertEqual(chances_of(hall, row, plan), wanted)

    def test_a_plan_that_keeps_away_one_that_comes_surely_one_in_between(self):
        hall = Hall(HALF, [("x", [Sure("a", ONE, "x"), Toss("b", ONE, (1, LONG), "end", "x"),
                                  Even("c", ONE, ["end", "pit", "x"]), Mixed("d", ONE, [("pit", ONE), ("end", NOUGHT)]),
                                  Even("e", ONE, ["end", "pit", "pit"])]), ("end", []), ("pit", [])])
        for door, chance in [(0, NOUGHT), (1, ONE), (2, HALF), (3, NOUGHT), (4, (1, 3))]:
            self.assertEqual(chances_of(hall, [1], [door, None, None]), [chance, ONE, NOUGHT])

    def test_rooms_that_lead_but_to_one_another(self):
        hall = Hall(HALF, [
            ("x", [Sure("a", ONE, "y")]), ("y", [Even("a", ONE, ["z", "x"])]), ("z", [Sure("a", ONE, "x")]),
            ("w", [Even("a", ONE, ["x", "end", "w", "w"])]), ("end", [Sure("a", ONE, "w")]),
        ])
        self.assertEqual(chances_of(hall, [4], [0] * 5), [NOUGHT, NOUGHT, NOUGHT, HALF, ONE])
        self.assertEqual(chances_of(hall, [4, 2], [0] * 5), [ONE] * 5)

    def test_doors_of_goals_lead_elsewhere(self):
        hall = Hall(HALF, [("x", [Sure("a", ONE, "y")]), ("y", [Sure("a", ONE, "pit"), Sure("b", ONE, "x")]),
                           ("pit", [Sure("a", ONE, "pit")])])
        for door in [0, 1]:
            self.assertEqual(chances_of(hall, [1], [0, door, 0]), [ONE, ONE, NOUGHT])
            self.assertEqual(chances_of(hall, [0], [0, door, 0]), [ONE, [NOUGHT, ONE][door], NOUGHT])
            self.assertEqual(chances_of(hall, [2], [0, door, 0]), [[ONE, NOUGHT][door], [ONE, NOUGHT][door], ONE])

    def test_walks_between_two_ends(self):
        for many in [3, 4, 12, 20]:
            hall = walk(many, HALF)
            told = [pair(Fraction(room, many - 1)) for room in range(many)]
            self.assertEqual(chances_of(hall, [many - 1], first_plan(hall)), told)
            self.assertEqual(chances_of(hall, [0], first_plan(hall)), told[::-1])
            hall = walk(many, (2, 3))
            whole = 1 - Fraction(1, 2) ** (many - 1)
            told = [pair((1 - Fraction(1, 2) ** room) / whole) for room in range(many)]
            self.assertEqual(chances_of(hall, [many - 1], first_plan(hall)), told)

    def test_a_walk_with_numbers_of_many_figures(self):
        hall = walk(8, (LONG - 2, 2 * LONG))
        told = self.are_chances(hall, [7], first_plan(hall))
        self.assertGreater(len(str(told[3][1])), 180)

    def test_a_chance_that_is_all_but_one(self):
        hall = Hall(HALF, [("x", [Toss("a", ONE, (LONG - 1, LONG), "end", "pit")]), ("end", []), ("pit", [])])
        self.assertEqual(chances_of(hall, [1], [0, None, None]), [(LONG - 1, LONG), ONE, NOUGHT])
        self.assertEqual(chances_of(hall, [2], [0, None, None]), [(1, LONG), NOUGHT, ONE])

    def test_share_and_pays_do_not_matter(self):
        for share in SHARES:
            for pay in [NOUGHT, (-LONG, 1), (7, 3)]:
                hall = Hall(share, [("x", [Even("a", pay, ["x", "y", "z"])]), ("y", []), ("z", [])])
                self.assertEqual(chances_of(hall, [1], [0, None, None]), [HALF, ONE, NOUGHT])

    def test_each_plan_of_small_halls(self):
        for hall, goals in small_halls(73) + sparse_halls(74, 100):
            for plan in all_plans(hall):
                self.are_chances(hall, goals, plan)

    def test_as_many_rooms_and_doors_as_they_come(self):
        numbers = Numbers(75)
        for hall, goals in large_halls(76):
            doors = [len(hall.offers(room)) for room in range(12)]
            self.are_chances(hall, goals, [numbers.below(many) if many else None for many in doors])

    def test_what_is_no_room(self):
        self.refuses_goals(lambda hall, goals: chances_of(hall, goals, first_plan(hall)))

    def test_what_is_no_plan(self):
        self.refuses_plans(lambda hall, thing: chances_of(hall, [], thing))
        self.refuses_plans(lambda hall, thing: chances_of(hall, list(range(hall.size())), thing))

    def test_a_plan_has_doors_for_goals_too(self):
        hall = Hall(HALF, [("x", [Sure("a", ONE, "y")]), ("y", [Sure("a", ONE, "x")])])
        self.no_plan(lambda: chances_of(hall, [1], [0, None]), 1)
        self.no_plan(lambda: chances_of(hall, [1], [0, 1]), 1)
        self.no_plan(lambda: chances_of(hall, [0, 1], [None, None]), 0)

    def test_goals_stand_ahead_of_the_plan(self):
        hall = read(THREE)
        for plan in [None, [], [0, 0, 0], [3, None, 0], Stubborn(), [Stubborn()] * 3]:
            for goal in [3, -1, None, True, "x", Stubborn()]:
                for goals in [[goal], [0, goal], [goal, 7]]:
                    self.assertIs(self.is_refused(NoRoom, lambda: chances_of(hall, goals, plan)).room, goal)
            self.is_refused(NoPlan, lambda: chances_of(hall, [0], plan))

    def test_arguments_by_their_names(self):
        hall = read(THREE)
        self.assertEqual(chances_of(hall=hall, goals=[1], plan=[2, None, 1]), [(2, 3), ONE, NOUGHT])

    def test_lists_told_are_the_askers_own(self):
        hall = read(THREE)
        wanted = [(2, 3), ONE, NOUGHT]
        goals = [1]
        plan = [2, None, 1]
        one = chances_of(hall, goals, plan)
        other = chances_of(hall, goals, plan)
        other[0] = NOUGHT
        other.clear()
        goals[0] = 0
        goals.append(2)
        plan[0] = 0
        plan.pop()
        self.assertEqual(one, wanted)
        one.append(ONE)
        self.assertEqual(chances_of(hall, [1], [2, None, 1]), wanted)


class GreatestAndLeast(Told):
    def are(self, hall, goals, most, fewest):
        """The greatest and the least chances are these, told by texts of fractions."""
        told = self.both(hall, goals)
        self.assertEqual(told, ([Fraction(one) for one in most.split()], [Fraction(one) for one in fewest.split()]))

    def test_no_room(self):
        self.assertEqual(greatest_chances(Hall(HALF, []), []), ([], []))
        self.assertEqual(least_chances(Hall(HALF, []), []), ([], []))

    def test_one_room(self):
        for ask in [greatest_chances, least_chances]:
            self.assertEqual(ask(Hall(HALF, [("x", [])]), []), ([None], [NOUGHT]))
            self.assertEqual(ask(Hall(HALF, [("x", [])]), [0]), ([None], [ONE]))
            self.assertEqual(ask(Hall(HALF, [("x", [Sure("a", ONE, "x")])]), [0]), ([0], [ONE]))

    def test_no_goals_and_all_rooms(self):
        for hall, goals in small_halls(77):
            for ask in [greatest_chances, least_chances]:
                self.is_told(ask, hall, [])
                self.assertEqual(ask(hall, [])[1], [NOUGHT] * hall.size())
                self.assertEqual(ask(hall, list(range(hall.size())))[1], [ONE] * hall.size())

    def test_a_door_for_each_chance(self):
        doors = [Toss("d" + chr(97 + door), ONE, chance, "end", "pit")
                 for door, chance in enumerate([(1, 3), HALF, (LONG, 2 * LONG + 1), (LONG + 1, 2 * LONG + 1), (1, 4)])]
        for row in itertools.permutations(doors):
            hall = Hall(HALF, [("x", list(row)), ("end", []), ("pit", [])])
            for ask, door in [(greatest_chances, doors[3]), (least_chances, doors[4])]:
                self.assertEqual(ask(hall, [1]), ([row.index(door), None, None], [door.chance_to("end"), ONE, NOUGHT]))

    def test_a_hand_that_can_stay_where_it_is(self):
        stay = Sure("stay", ONE, "x")
        on = Even("on", ONE, ["end", "pit"])
        for doors in [[stay, on], [on, stay], [stay, on, Sure("too", ONE, "x")]]:
            hall = Hall(HALF, [("x", doors), ("end", []), ("pit", [])])
            self.are(hall, [1], "1/2 1 0", "0 1 0")
            self.are(hall, [1, 2], "1 1 1", "0 1 1")

    def test_a_hand_that_can_go_to_and_fro_for_ever(self):
        # By the chances told all doors of x, y and z look alike, yet most of them never come to a goal.
        there = [Sure("a", ONE, "y"), Sure("b", ONE, "z"), Even("c", ONE, ["x", "y", "z"])]
        for row in itertools.permutations(there):
            hall = Hall(HALF, [
                ("x", list(row)), ("y", list(row)), ("z", list(row) + [Even("on", ONE, ["end", "pit"])]),
                ("end", []), ("pit", []),
            ])
            self.are(hall, [3], "1/2 1/2 1/2 1 0", "0 0 0 1 0")
            self.are(hall, [3, 4], "1 1 1 1 1", "0 0 0 1 1")
            self.are(hall, [0], "1 1 1 0 0", "1 0 0 0 0")

    def test_a_ring_with_one_way_out(self):
        for many in [2, 5, 10]:
            names = names_of(many)
            for out in range(many):
                rooms = []
                for room, name in enumerate(names):
                    doors = [Sure("on", ONE, names[(room + 1) % many]), Sure("back", ONE, names[room - 1])]
                    leave = [Toss("out", ONE, (2, 3), "end", "pit")] if room == out else []
                    rooms.append((name, doors + leave if room % 2 else leave + doors))
                hall = Hall(HALF, rooms + [("end", []), ("pit", [])])
                self.are(hall, [many], "2/3 " * many + "1 0", "0 " * many + "1 0")

    def test_a_hand_that_may_be_driven_out(self):
        # Whatever is done in x and y, they are left in the end.
        hall = Hall(HALF, [
            ("x", [Even("a", ONE, ["y", "y", "end"]), Even("b", ONE, ["x", "y", "pit"])]),
            ("y", [Even("a", ONE, ["x", "end"]), Even("b", ONE, ["x", "x", "pit"])]), ("end", []), ("pit", []),
        ])
        self.are(hall, [2], "1 1 1 0", "0 0 1 0")
        self.are(hall, [2, 3], "1 1 1 1", "1 1 1 1")

    def test_chances_in_between_at_the_most_and_the_least(self):
        # x: a tells 1/3 of end, 1/3 of y; b 1/4 of end, 1/2 of y. y: a 1/2 of end; b 1/2 of x.
        hall = Hall(HALF, [
            ("x", [Even("a", ONE, ["end", "y", "pit"]), Even("b", ONE, ["end", "y", "y", "pit"])]),
            ("y", [Even("a", ONE, ["end", "pit"]), Even("b", ONE, ["x", "pit"])]), ("end", []), ("pit", []),
        ])
        self.are(hall, [2], "1/2 1/2 1 0", "1/3 1/6 1 0")

    def test_a_sure_way_is_taken_though_it_is_long(self):
        names = names_of(9)
        jump = Toss("jump", ONE, (LONG - 1, LONG), "end", "pit")
        rooms = [(name, [jump, Sure("on", ONE, (names + ["end"])[room + 1])]) for room, name in enumerate(names)]
        hall = Hall(HALF, rooms + [("end", []), ("pit", [])])
        self.assertEqual(greatest_chances(hall, [9]), ([1] * 9 + [None, None], [ONE] * 10 + [NOUGHT]))
        self.assertEqual(least_chances(hall, [9])[1], [(LONG - 1, LONG)] * 9 + [ONE, NOUGHT])

    def test_doors_of_goals_are_not_looked_at(self):
        hall = Hall(HALF, [("x", [Sure("a", ONE, "y"), Sure("b", ONE, "pit")]),
                           ("y", [Sure("a", ONE, "pit"), Sure("b", ONE, "x"), Sure("c", ONE, "y")]),
                           ("pit", [Sure("a", ONE, "pit")])])
        self.are(hall, [1], "1 1 0", "0 1 0")
        self.are(hall, [0], "1 1 0", "1 0 0")
        self.are(hall, [0, 1], "1 1 0", "1 1 0")

    def test_walks_with_a_choice(self):
        for many in [4, 9]:
            names = names_of(many)
            rooms = [(names[room], [Toss("low", ONE, (1, 3), names[room + 1], names[room - 1]),
                                    Toss("high", ONE, (2, 3), names[room + 1], names[room - 1]),
                                    Toss("fair", ONE, HALF, names[room + 1], names[room - 1])])
                     for room in range(1, many - 1)]
            hall = Hall(HALF, [(names[0], [])] + rooms + [(names[-1], [])])
            inner = many - 2
            self.assertEqual(greatest_chances(hall, [many - 1])[0], [None] + [1] * inner + [None])
            self.assertEqual(least_chances(hall, [many - 1])[0], [None] + [0] * inner + [None])
            self.both(hall, [many - 1])

    def test_all_plans_of_small_halls(self):
        for hall, goals in small_halls(78) + sparse_halls(79, 300):
            most, fewest = self.both(hall, goals)
            tried = [[Fraction(*chance) for chance in chances_of(hall, goals, plan)] for plan in all_plans(hall)]
            for room in range(hall.size()):
                self.assertEqual(most[room], max(chances[room] for chances in tried))
                self.assertEqual(fewest[room], min(chances[room] for chances in tried))

    def test_order_and_repeats_do_not_matter(self):
        for hall, goals in small_halls(80):
            for ask in [greatest_chances, least_chances]:
                wanted = ask(hall, sorted(set(goals)))[1]
                for row in [goals, goals[::-1], goals + goals, (goals * 70)[:200]]:
                    self.is_told(ask, hall, row)
                    self.assertEqual(ask(hall, row)[1], wanted)

    def test_as_many_rooms_and_doors_as_they_come(self):
        for hall, goals in large_halls(81):
            self.both(hall, goals)

    def test_what_is_no_room(self):
        self.refuses_goals(greatest_chances)
        self.refuses_goals(least_chances)

    def test_arguments_by_their_names(self):
        hall = read(THREE)
        self.assertEqual(greatest_chances(hall=hall, goals=[1])[1], [ONE] * 3)
        self.assertEqual(least_chances(hall=hall, goals=[1])[1], [NOUGHT, ONE, NOUGHT])

    def test_lists_told_are_the_askers_own(self):
        hall = read(THREE)
        for ask in [greatest_chances, least_chances]:
            wanted = copy.deepcopy(ask(hall, [2]))
            goals = [2]
            one = ask(hall, goals)
            other = ask(hall, goals)
            for part in other:
                part[0] = None
                part.clear()
            goals[0] = 1
            goals.append(0)
            self.assertEqual(one, wanted)
            for part in one:
                part.append(ONE)
            self.assertEqual(ask(hall, [2]), wanted)


if __name__ == "__main__":
    unittest.main()
