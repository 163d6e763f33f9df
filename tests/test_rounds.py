"""[35] rounds, those of a plan and those of goals; [18] NoPlan, [26] NoRoom, NoNumber and [2] over them."""

import copy
import itertools
import unittest
from fractions import Fraction

from chancehall.doors import Even, Mixed, Sure, Toss
from chancehall.errors import HallError, NoNumber, NoPlan, NoRoom
from chancehall.goals import greatest_chances
from chancehall.halls import Hall
from chancehall.mending import best_of
from chancehall.plans import first_plan, looks
from chancehall.ratios import is_ratio
from chancehall.rounds import best_rounds, goal_rounds, plan_rounds
from chancehall.texts import read, show
from chancehall.ways import fewest_steps
from chancehall.worths import worths_of

LONG = 10 ** 59 + 7
NOUGHT = (0, 1)
ONE = (1, 1)
HALF = (1, 2)
SHARES = [(0, 1), (1, 2), (2, 3), (99, 100)]


# A thing with a mind of its own about being asked, to be refused all the same.
class Stubborn:
    def __eq__(self, other):
        raise RuntimeError("not to be compared")

    def __bool__(self):
        raise RuntimeError("not to be asked for its truth")

    def __len__(self):
        raise RuntimeError("not to be measured")


# A thing that says of itself that it is whatever it is held against.
class Flatterer:
    def __eq__(self, other):
        return True

    def __hash__(self):
        return 0


ODD = [True, False, 0.0, 1.0, 0.5, 1j, b"", b"x", "", "0", "x", "None", [], [0], [None], (), (0,), (0, 1), (1, 2, 3),
       {}, {0: 0}, {0}, Fraction(0), Fraction(1), object(), Stubborn(), Flatterer(), list, Hall]
NO_LISTS = [thing for thing in ODD if not isinstance(thing, list)] + [
    None, 0, 1, 3, (0, None, 0), {0: 0, 1: None, 2: 0}, range(3), "012"]
NO_ROUNDS = ODD + [None, -1, -2, 41, 42, 100, LONG, -LONG, 40.0, "40", "-1", "1", (1, 1), (40, 1), [1], Fraction(40)]

THREE = "\n".join([
    "share 1/2", "room x", "door a 1 sure y", "door b -3/2 even x z", "door c 0 toss 1/3 z y", "room y", "room z",
    "door a 5 mixed x 1/4 y 1/4 z 1/2", "door b 0 sure z",
])


class Numbers:
    """Numbers that are always the same ones, without any order that meets the eye."""

    def __init__(self, seed):
        self.state = seed

    def below(self, many):
        found = 0
        while found < many:
            self.state = (self.state * 6364136223846793005 + 1442695040888963407) % 2 ** 64
            found = (found << 31) + (self.state >> 33) + 1
        return found % many

    def fraction(self, large):
        return Fraction(self.below(2 * large + 1) - large, 1 + self.below(large))


def pair(number):
    return (Fraction(number).numerator, Fraction(number).denominator)


def names_of(many):
    return [chr(97 + room) for room in range(many)]


def some_door(numbers, name, rooms, large):
    """A door of any sort, to any of the rooms."""
    pay = pair(numbers.fraction(large))
    told = [rooms[numbers.below(len(rooms))] for k in range(1 + numbers.below(8))]
    sort = numbers.below(4)
    if sort == 0:
        return Sure(name, pay, told[0])
    if sort == 1:
        return Even(name, pay, told)
    if sort == 2:
        bottom = 1 + numbers.below(large)
        return Toss(name, pay, pair(Fraction(numbers.below(bottom + 1), bottom)), told[0], told[-1])
    parts = [1 + numbers.below(large) for k in told]
    return Mixed(name, pay, [(room, pair(Fraction(part, sum(parts)))) for room, part in zip(told, parts)])


def some_hall(numbers, share, doors, large):
    """A hall whose rooms have so many doors each."""
    rooms = names_of(len(doors))
    return Hall(share, [
        (room, [some_door(numbers, "d" + chr(97 + door), rooms, large) for door in range(many)])
        for room, many in zip(rooms, doors)
    ])


def all_plans(hall):
    doors = [len(hall.offers(room)) for room in range(hall.size())]
    return [list(plan) for plan in itertools.product(*[range(many) if many else [None] for many in doors])]


def small_halls(seed):
    """Halls with rooms of no, one and several doors."""
    numbers = Numbers(seed)
    told = []
    for share in SHARES:
        for doors in [[], [0], [1], [3], [0, 2], [2, 0, 3], [2, 2, 2, 0], [1, 0, 3, 0, 2, 1]]:
            told += [some_hall(numbers, share, doors, large) for large in [1, 3, LONG]]
    return told


def some_plans(hall):
    """Some of the plans of a hall."""
    doors = [len(hall.offers(room)) for room in range(hall.size())]
    return [[(room + turn) % one if one else None for room, one in enumerate(doors)] for turn in range(3)]


def some_goals(numbers, many):
    """A list of goals, perhaps of none, perhaps some of them twice."""
    if many == 0:
        return []
    return [numbers.below(many) for k in range(numbers.below(4))]


def mean(ways, numbers):
    """The sum of chance times number over the ways."""
    return sum((Fraction(*chance) * numbers[to] for to, chance in ways), Fraction(0))


def model_looks(hall, room, worths):
    return [Fraction(*pay) + Fraction(*hall.share) * mean(ways, worths) for name, pay, ways in hall.offers(room)]


def model_best(hall, ahead):
    return [max(model_looks(hall, room, ahead), default=Fraction(0)) for room in range(hall.size())]


def model_plan(hall, plan, ahead):
    return [Fraction(0) if door is None else model_looks(hall, room, ahead)[door] for room, door in enumerate(plan)]


def model_goals(hall, goals, ahead):
    told = []
    for room in range(hall.size()):
        behind = [mean(ways, ahead) for name, pay, ways in hall.offers(room)]
        told.append(Fraction(1) if room in goals else max(behind, default=Fraction(0)))
    return told


def paid_within(hall, plans, room):
    """What is paid from the room on by the plans, another one at each step, as many steps as plans."""
    if not plans or plans[0][room] is None:
        return Fraction(0)
    name, pay, ways = hall.offers(room)[plans[0][room]]
    behind = sum((Fraction(*chance) * paid_within(hall, plans[1:], to) for to, chance in ways), Fraction(0))
    return Fraction(*pay) + Fraction(*hall.share) * behind


def come_within(hall, goals, plans, room):
    """How likely a goal is come to by the plans, another one at each step, as many steps as plans."""
    if room in goals:
        return Fraction(1)
    if not plans or plans[0][room] is None:
        return Fraction(0)
    ways = hall.offers(room)[plans[0][room]][2]
    return sum((Fraction(*chance) * come_within(hall, goals, plans[1:], to) for to, chance in ways), Fraction(0))


class Told(unittest.TestCase):
    def is_refused(self, kind, make):
        with self.assertRaises(HallError) as taken:
            make()
        self.assertIs(type(taken.exception), kind)
        return taken.exception

    def no_plan(self, make, room):
        found = self.is_refused(NoPlan, make).room
        self.assertEqual((type(found), found), (type(room), room))

    def refuses_plans(self, ask):
        """What is no plan, of any kind, is refused by the call, which is given a hall and a thing."""
        for text in ["share 0", "share 1/2\nroom x", THREE]:
            for thing in NO_LISTS:
                self.no_plan(lambda: ask(read(text), thing), None)
        hall = read(THREE)
        for plan in [[], [0], [0, None], [0, None, 0, 0], [Stubborn()]]:
            self.no_plan(lambda: ask(hall, plan), None)
        for room, right in enumerate([[0, 1, 2], [None], [0, 1]]):
            for thing in ODD + [None, -1, 0, 1, 2, 3, LONG, -LONG]:
                if type(thing) not in (int, type(None)) or thing not in right:
                    plan = [1, None, 1]
                    plan[room] = thing
                    self.no_plan(lambda: ask(hall, plan), room)
        self.no_plan(lambda: ask(hall, [3, 0, 2]), 0)
        self.no_plan(lambda: ask(hall, [2, 0, 2]), 1)
        for thing in [[3, None, 0], [[0], None, 0], [0, None], {0: [0]}, [0, [None], {}]]:
            kept = copy.deepcopy(thing)
            self.is_refused(NoPlan, lambda: ask(hall, thing))
            self.assertEqual(thing, kept)

    def refuses_numbers(self, ask):
        """What is no number of rounds, of any kind, is refused by the call, which is given a hall and a thing."""
        for text in ["share 0", "share 1/2\nroom x", THREE]:
            for thing in NO_ROUNDS:
                self.is_refused(NoNumber, lambda: ask(read(text), thing))
        inner = [1]
        thing = [inner]
        self.is_refused(NoNumber, lambda: ask(read(THREE), thing))
        self.assertEqual(thing, [[1]])

    def rounds(self, told, many, size):
        """The rounds as lists of fractions, one more than asked."""
        self.assertIs(type(told), list)
        self.assertEqual(len(told), many + 1)
        for one in told:
            self.assertIs(type(one), list)
            self.assertEqual(len(one), size)
            for number in one:
                self.assertTrue(is_ratio(number), number)
        return [[Fraction(*number) for number in one] for one in told]

    def follow(self, rounds, first, model):
        """The rounds begin with the first one, and each next one is what the model says by the one ahead."""
        self.assertEqual(rounds[0], first)
        for ahead, one in zip(rounds, rounds[1:]):
            self.assertEqual(one, model(ahead))

    def are_best(self, hall, many):
        before = show(hall)
        told = best_rounds(hall, many)
        self.assertEqual(show(hall), before)
        self.follow(self.rounds(told, many, hall.size()), [0] * hall.size(), lambda ahead: model_best(hall, ahead))
        return told

    def are_of_plan(self, hall, plan, many):
        kept = (list(plan), show(hall))
        told = plan_rounds(hall, plan, many)
        self.assertEqual((plan, show(hall)), kept)
        rounds = self.rounds(told, many, hall.size())
        self.follow(rounds, [0] * hall.size(), lambda ahead: model_plan(hall, plan, ahead))
        return told

    def are_of_goals(self, hall, goals, many):
        kept = (list(goals), show(hall))
        told = goal_rounds(hall, goals, many)
        self.assertEqual((goals, show(hall)), kept)
        rounds = self.rounds(told, many, hall.size())
        first = [1 if room in goals else 0 for room in range(hall.size())]
        self.follow(rounds, first, lambda ahead: model_goals(hall, goals, ahead))
        return told

    def lists_are_the_askers_own(self, ask, wanted):
        """The lists told by the call, which is always the same one, and those within them."""
        one = ask()
        other = ask()
        self.assertEqual(one, wanted)
        self.assertEqual(len({id(part) for part in one + other}), len(one) + len(other))
        for part in other:
            part[0] = (9, 1)
            part.clear()
        other.clear()
        self.assertEqual(one, wanted)
        for part in one:
            part.append(ONE)
        self.assertEqual(ask(), wanted)


class BestRounds(Told):
    def test_no_room(self):
        for many in [0, 1, 2, 40]:
            self.assertEqual(best_rounds(Hall(HALF, []), many), [[]] * (many + 1))

    def test_rooms_without_doors(self):
        for many in [0, 1, 40]:
            self.assertEqual(best_rounds(Hall(HALF, [("x", []), ("y", [])]), many), [[NOUGHT, NOUGHT]] * (many + 1))

    def test_none_asked(self):
        for hall in small_halls(121):
            self.assertEqual(best_rounds(hall, 0), [[NOUGHT] * hall.size()])

    def test_one_asked_tells_the_greatest_pays(self):
        hall = Hall(HALF, [("x", [Sure("a", (-2, 1), "x"), Sure("b", (-1, 2), "x")]), ("y", []),
                           ("z", [Sure("a", (LONG, 3), "x"), Sure("b", (LONG + 2, 4), "x")])])
        self.assertEqual(best_rounds(hall, 1), [[NOUGHT] * 3, [(-1, 2), NOUGHT, (LONG, 3)]])

    def test_a_door_to_its_own_room(self):
        hall = Hall(HALF, [("x", [Sure("a", ONE, "x")])])
        self.assertEqual(best_rounds(hall, 4), [[NOUGHT], [ONE], [(3, 2)], [(7, 4)], [(15, 8)]])
        self.assertEqual(best_rounds(hall, 40)[-1], [(2 ** 40 - 1, 2 ** 39)])
        hall = Hall((99, 100), [("x", [Sure("a", ONE, "x"), Sure("b", NOUGHT, "x")])])
        self.assertEqual(best_rounds(hall, 40)[-1], [pair(100 * (1 - Fraction(99, 100) ** 40))])

    def test_share_nought(self):
        hall = Hall((0, 1), [("x", [Sure("a", ONE, "x"), Sure("b", (2, 1), "y")]), ("y", [Sure("a", (-1, 1), "x")])])
        self.assertEqual(best_rounds(hall, 3), [[NOUGHT, NOUGHT]] + [[(2, 1), (-1, 1)]] * 3)

    def test_another_door_at_each_round(self):
        # The first door is best for one step, the second one for two, the third one for three.
        hall = Hall(HALF, [("x", [Sure("a", ONE, "end"), Sure("b", NOUGHT, "y"), Sure("c", NOUGHT, "z")]),
                           ("y", [Sure("a", (4, 1), "end")]), ("z", [Sure("a", NOUGHT, "w")]),
                           ("w", [Sure("a", (32, 1), "end")]), ("end", [])])
        self.assertEqual([one[0] for one in best_rounds(hall, 4)], [NOUGHT, ONE, (2, 1), (8, 1), (8, 1)])

    def test_small_halls(self):
        for hall in small_halls(122):
            for many in [0, 1, 2, 5]:
                told = self.are_best(hall, many)
                for ahead, one in zip(told, told[1:]):
                    for room in range(hall.size()):
                        seen = looks(hall, room, ahead)
                        self.assertEqual(one[room], max(seen, key=lambda look: Fraction(*look), default=NOUGHT))

    def test_no_row_of_plans_is_paid_more(self):
        numbers = Numbers(123)
        for share in SHARES:
            for doors in [[2, 0, 1], [2, 2]]:
                hall = some_hall(numbers, share, doors, 2)
                for many in [0, 1, 2, 3]:
                    rows = [list(row) for row in itertools.product(all_plans(hall), repeat=many)]
                    told = best_rounds(hall, many)[-1]
                    for room in range(hall.size()):
                        self.assertEqual(told[room], pair(max(paid_within(hall, row, room) for row in rows)))

    def test_forty_rounds(self):
        for hall in [read(THREE)] + small_halls(124)[::4]:
            told = self.are_best(hall, 40)
            for many in [0, 1, 7, 39]:
                self.assertEqual(best_rounds(hall, many), told[:many + 1])

    def test_they_come_near_the_best_worths(self):
        for share in SHARES:
            hall = some_hall(Numbers(125), share, [2, 3, 1], 4)
            gaps = []
            best = best_of(hall)[1]
            for one in best_rounds(hall, 40):
                gaps.append(max(abs(Fraction(*a) - Fraction(*b)) for a, b in zip(one, best)))
            for ahead, gap in zip(gaps, gaps[1:]):
                self.assertLessEqual(gap, Fraction(*share) * ahead)

    def test_as_many_rooms_and_doors_as_they_come(self):
        numbers = Numbers(126)
        for large, many in [(1, 40), (10, 40), (LONG, 5)]:
            self.are_best(some_hall(numbers, (99, 100), [6] * 12, large), many)

    def test_what_is_no_number_of_rounds(self):
        self.refuses_numbers(best_rounds)

    def test_arguments_by_their_names(self):
        self.assertEqual(best_rounds(hall=Hall(HALF, [("x", [Sure("a", ONE, "x")])]), many=1), [[NOUGHT], [ONE]])

    def test_lists_told_are_the_askers_own(self):
        hall = read(THREE)
        wanted = [[NOUGHT] * 3, [ONE, NOUGHT, (5, 1)], [ONE, NOUGHT, (51, 8)]]
        self.lists_are_the_askers_own(lambda: best_rounds(hall, 2), wanted)
        still = Hall(HALF, [("x", [])])
        self.lists_are_the_askers_own(lambda: best_rounds(still, 3), [[NOUGHT]] * 4)


class PlanRounds(Told):
    def test_no_room(self):
        for many in [0, 1, 2, 40]:
            self.assertEqual(plan_rounds(Hall(HALF, []), [], many), [[]] * (many + 1))

    def test_rooms_without_doors(self):
        hall = Hall(HALF, [("x", []), ("y", [])])
        for many in [0, 1, 40]:
            self.assertEqual(plan_rounds(hall, [None, None], many), [[NOUGHT, NOUGHT]] * (many + 1))

    def test_none_asked(self):
        for hall in small_halls(127):
            self.assertEqual(plan_rounds(hall, first_plan(hall), 0), [[NOUGHT] * hall.size()])

    def test_the_plans_own_door(self):
        hall = Hall(HALF, [("x", [Sure("a", ONE, "x"), Sure("b", (-3, 1), "y"), Sure("c", (2, 1), "x")]), ("y", [])])
        self.assertEqual(plan_rounds(hall, [0, None], 2), [[NOUGHT] * 2, [ONE, NOUGHT], [(3, 2), NOUGHT]])
        self.assertEqual(plan_rounds(hall, [1, None], 3), [[NOUGHT] * 2] + [[(-3, 1), NOUGHT]] * 3)
        self.assertEqual(plan_rounds(hall, [2, None], 2), [[NOUGHT] * 2, [(2, 1), NOUGHT], [(3, 1), NOUGHT]])

    def test_three_rooms(self):
        # By the plan x has the door b, -3/2 and a quarter of x and z each; z has a, 5 and x / 8, z / 4.
        told = plan_rounds(read(THREE), [1, None, 0], 2)
        self.assertEqual(told, [[NOUGHT] * 3, [(-3, 2), NOUGHT, (5, 1)], [(-5, 8), NOUGHT, (97, 16)]])

    def test_small_halls(self):
        for hall in small_halls(128):
            for plan in some_plans(hall):
                for many in [1, 4]:
                    told = self.are_of_plan(hall, plan, many)
                    for ahead, one in zip(told, told[1:]):
                        for room, door in enumerate(plan):
                            self.assertEqual(one[room], NOUGHT if door is None else looks(hall, room, ahead)[door])

    def test_what_the_plan_is_paid_within_so_many_steps(self):
        numbers = Numbers(129)
        for share in SHARES:
            for doors in [[2, 0, 1], [2, 2]]:
                hall = some_hall(numbers, share, doors, 2)
                for plan in all_plans(hall):
                    for many, one in enumerate(plan_rounds(hall, plan, 4)):
                        wanted = [pair(paid_within(hall, [plan] * many, room)) for room in range(hall.size())]
                        self.assertEqual(one, wanted)

    def test_no_plan_is_paid_more_than_the_best_rounds(self):
        for hall in small_halls(130)[::2]:
            best = best_rounds(hall, 6)
            for plan in some_plans(hall):
                for one, most in zip(plan_rounds(hall, plan, 6), best):
                    self.assertTrue(all(Fraction(*paid) <= Fraction(*bound) for paid, bound in zip(one, most)))

    def test_where_there_is_no_choice_they_are_the_best_rounds(self):
        numbers = Numbers(131)
        for share in SHARES:
            hall = some_hall(numbers, share, [1, 0, 1, 1], 5)
            self.assertEqual(plan_rounds(hall, [0, None, 0, 0], 12), best_rounds(hall, 12))

    def test_forty_rounds(self):
        for hall in [read(THREE)] + small_halls(132)[::4]:
            plan = some_plans(hall)[1]
            told = self.are_of_plan(hall, plan, 40)
            for many in [0, 1, 7, 39]:
                self.assertEqual(plan_rounds(hall, plan, many), told[:many + 1])

    def test_they_come_near_the_worths(self):
        for share in SHARES:
            hall = some_hall(Numbers(133), share, [2, 3, 1], 4)
            for plan in all_plans(hall):
                worths = worths_of(hall, plan)
                gaps = [max(abs(Fraction(*a) - Fraction(*b)) for a, b in zip(one, worths))
                        for one in plan_rounds(hall, plan, 12)]
                for ahead, gap in zip(gaps, gaps[1:]):
                    self.assertLessEqual(gap, Fraction(*share) * ahead)

    def test_as_many_rooms_and_doors_as_they_come(self):
        numbers = Numbers(134)
        for large, many in [(1, 40), (10, 40), (LONG, 5)]:
            hall = some_hall(numbers, (99, 100), [6] * 12, large)
            self.are_of_plan(hall, [room % 6 for room in range(12)], many)

    def test_what_is_no_number_of_rounds(self):
        self.refuses_numbers(lambda hall, thing: plan_rounds(hall, first_plan(hall), thing))

    def test_what_is_no_plan(self):
        for many in [0, 1, 40]:
            self.refuses_plans(lambda hall, thing: plan_rounds(hall, thing, many))

    def test_the_plan_stands_ahead_of_the_number(self):
        hall = read(THREE)
        for many in NO_ROUNDS:
            for plan, room in [(None, None), ([], None), ([0, 0, 0], 1), ([3, None, 0], 0), (Stubborn(), None)]:
                self.no_plan(lambda: plan_rounds(hall, plan, many), room)
            self.is_refused(NoNumber, lambda: plan_rounds(hall, [0, None, 0], many))

    def test_arguments_by_their_names(self):
        hall = Hall(HALF, [("x", [Sure("a", ONE, "x")])])
        self.assertEqual(plan_rounds(hall=hall, plan=[0], many=1), [[NOUGHT], [ONE]])

    def test_lists_told_are_the_askers_own(self):
        hall = read(THREE)
        plan = [1, None, 0]
        wanted = [[NOUGHT] * 3, [(-3, 2), NOUGHT, (5, 1)], [(-5, 8), NOUGHT, (97, 16)]]
        self.lists_are_the_askers_own(lambda: plan_rounds(hall, plan, 2), wanted)
        one = plan_rounds(hall, plan, 2)
        plan[0] = 0
        plan.clear()
        self.assertEqual(one, wanted)
        self.assertEqual(plan_rounds(hall, [1, None, 0], 2), wanted)


class GoalRounds(Told):
    def test_no_room(self):
        for many in [0, 1, 2, 40]:
            self.assertEqual(goal_rounds(Hall(HALF, []), [], many), [[]] * (many + 1))

    def test_rooms_without_doors(self):
        hall = Hall(HALF, [("x", []), ("y", [])])
        for many in [0, 1, 40]:
            self.assertEqual(goal_rounds(hall, [], many), [[NOUGHT, NOUGHT]] * (many + 1))
            self.assertEqual(goal_rounds(hall, [1], many), [[NOUGHT, ONE]] * (many + 1))
            self.assertEqual(goal_rounds(hall, [1, 0, 1], many), [[ONE, ONE]] * (many + 1))

    def test_none_asked(self):
        numbers = Numbers(135)
        for hall in small_halls(136):
            goals = some_goals(numbers, hall.size())
            wanted = [ONE if room in goals else NOUGHT for room in range(hall.size())]
            self.assertEqual(goal_rounds(hall, goals, 0), [wanted])

    def test_no_goals_and_all_rooms(self):
        for hall in small_halls(137)[::3]:
            self.assertEqual(goal_rounds(hall, [], 3), [[NOUGHT] * hall.size()] * 4)
            self.assertEqual(goal_rounds(hall, list(range(hall.size())), 3), [[ONE] * hall.size()] * 4)

    def test_a_toss_that_is_tried_again(self):
        hall = Hall(HALF, [("x", [Toss("a", ONE, (1, 3), "end", "x"), Sure("b", ONE, "x")]), ("end", [])])
        self.assertEqual(goal_rounds(hall, [1], 3), [[NOUGHT, ONE], [(1, 3), ONE], [(5, 9), ONE], [(19, 27), ONE]])
        self.assertEqual(goal_rounds(hall, [1], 40)[-1], [pair(1 - Fraction(2, 3) ** 40), ONE])

    def test_goals_stay_one_whatever_their_doors(self):
        hall = Hall(HALF, [("x", [Sure("a", ONE, "y")]), ("y", [Sure("a", ONE, "pit")]), ("pit", [])])
        self.assertEqual(goal_rounds(hall, [1], 3), [[NOUGHT, ONE, NOUGHT]] + [[ONE, ONE, NOUGHT]] * 3)
        self.assertEqual(goal_rounds(hall, [2], 3), [[NOUGHT, NOUGHT, ONE], [NOUGHT, ONE, ONE]] + [[ONE] * 3] * 2)
        self.assertEqual(goal_rounds(hall, [0], 2), [[ONE, NOUGHT, NOUGHT]] * 3)

    def test_another_door_at_each_round(self):
        # Jumping is best within one step, walking within two.
        hall = Hall(HALF, [("x", [Sure("walk", ONE, "y"), Even("jump", ONE, ["end", "pit"])]),
                           ("y", [Sure("on", ONE, "end")]), ("end", []), ("pit", [])])
        self.assertEqual([one[0] for one in goal_rounds(hall, [2], 3)], [NOUGHT, HALF, ONE, ONE])

    def test_share_and_pays_do_not_matter(self):
        for share in SHARES:
            for pay in [NOUGHT, (-LONG, 1), (7, 3)]:
                hall = Hall(share, [("x", [Even("a", pay, ["x", "y", "z"])]), ("y", []), ("z", [])])
                told = [one[0] for one in goal_rounds(hall, [1], 3)]
                self.assertEqual(told, [NOUGHT, (1, 3), (4, 9), (13, 27)])

    def test_order_and_repeats_do_not_matter(self):
        numbers = Numbers(138)
        for hall in small_halls(139)[::2]:
            goals = some_goals(numbers, hall.size())
            wanted = goal_rounds(hall, sorted(set(goals)), 3)
            for row in [goals, goals[::-1], goals + goals, (goals * 70)[:200]]:
                self.assertEqual(goal_rounds(hall, row, 3), wanted)

    def test_small_halls(self):
        numbers = Numbers(140)
        for hall in small_halls(141):
            goals = some_goals(numbers, hall.size())
            told = self.are_of_goals(hall, goals, 6)
            most = greatest_chances(hall, goals)[1]
            # It rises to the greatest chance, and is above nought from the fewest steps on.
            for room, steps in enumerate(fewest_steps(hall, goals)):
                row = [Fraction(*one[room]) for one in told] + [Fraction(*most[room])]
                self.assertEqual(row, sorted(row))
                if steps is None or steps <= 6:
                    self.assertEqual([chance > 0 for chance in row[:-1]],
                                     [steps is not None and steps <= many for many in range(7)])

    def test_no_row_of_plans_is_likelier(self):
        numbers = Numbers(142)
        for doors in [[2, 0, 1], [2, 2], [0, 2, 2]]:
            for k in range(3):
                hall = some_hall(numbers, HALF, doors, 2)
                goals = [numbers.below(hall.size())]
                for many in [0, 1, 2, 3]:
                    rows = [list(row) for row in itertools.product(all_plans(hall), repeat=many)]
                    told = goal_rounds(hall, goals, many)[-1]
                    for room in range(hall.size()):
                        self.assertEqual(told[room], pair(max(come_within(hall, goals, row, room) for row in rows)))

    def test_forty_rounds(self):
        for hall in [read(THREE)] + small_halls(143)[::4]:
            goals = [hall.size() - 1] if hall.size() else []
            told = self.are_of_goals(hall, goals, 40)
            for many in [0, 1, 7, 39]:
                self.assertEqual(goal_rounds(hall, goals, many), told[:many + 1])

    def test_as_many_rooms_and_doors_as_they_come(self):
        numbers = Numbers(144)
        for doors in [[6] * 12, [0, 0] + [6] * 10]:
            for large, many in [(1, 40), (10, 40), (LONG, 5)]:
                self.are_of_goals(some_hall(numbers, (99, 100), doors, large), [0, 11], many)

    def test_what_is_no_number_of_rounds(self):
        self.refuses_numbers(lambda hall, thing: goal_rounds(hall, [], thing))
        self.refuses_numbers(lambda hall, thing: goal_rounds(hall, list(range(hall.size())), thing))

    def test_what_is_no_room(self):
        for many in [0, 1, 3]:
            hall = Hall(HALF, [(name, [Sure("a", ONE, "a")]) for name in names_of(many)])
            for thing in ODD + [None, many, many + 1, -1, -many - 1, LONG, -LONG, "a"]:
                rows = [[thing], [thing, thing], [thing, None], [thing, Stubborn()]]
                if many > 0:
                    rows += [[0, thing], [thing, 0], [0, many - 1, thing, 0, None], [0] * 50 + [thing]]
                for row in rows:
                    for asked in [0, 2]:
                        self.assertIs(self.is_refused(NoRoom, lambda: goal_rounds(hall, row, asked)).room, thing)

    def test_goals_stand_ahead_of_the_number(self):
        hall = read(THREE)
        for many in NO_ROUNDS:
            for goal in [3, -1, None, True, Stubborn()]:
                self.assertIs(self.is_refused(NoRoom, lambda: goal_rounds(hall, [0, goal, 9], many)).room, goal)
            self.is_refused(NoNumber, lambda: goal_rounds(hall, [0, 2], many))

    def test_arguments_by_their_names(self):
        hall = Hall(HALF, [("x", [Sure("a", ONE, "y")]), ("y", [])])
        self.assertEqual(goal_rounds(hall=hall, goals=[1], many=1), [[NOUGHT, ONE], [ONE, ONE]])

    def test_lists_told_are_the_askers_own(self):
        hall = Hall(HALF, [("x", [Even("a", ONE, ["x", "y", "z"])]), ("y", []), ("z", [])])
        goals = [1]
        wanted = [[NOUGHT, ONE, NOUGHT], [(1, 3), ONE, NOUGHT], [(4, 9), ONE, NOUGHT]]
        self.lists_are_the_askers_own(lambda: goal_rounds(hall, goals, 2), wanted)
        one = goal_rounds(hall, goals, 2)
        goals[0] = 2
        goals.append(0)
        self.assertEqual(one, wanted)
        self.assertEqual(goal_rounds(hall, [1], 2), wanted)


if __name__ == "__main__":
    unittest.main()
