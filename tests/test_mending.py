"""[22] a plan mended, [23] its mendings and the best plan; [18] NoPlan and [2] over them."""

import copy
import itertools
import unittest
from fractions import Fraction

from chancehall.doors import Even, Mixed, Sure, Toss
from chancehall.errors import HallError, NoPlan
from chancehall.halls import Hall
from chancehall.mending import best_of, mended, mendings
from chancehall.plans import check_plan, first_plan, looks
from chancehall.ratios import is_ratio
from chancehall.texts import read, show
from chancehall.worths import worths_of

LONG = 10 ** 59 + 7
NOUGHT = (0, 1)
ONE = (1, 1)
HALF = (1, 2)
SHARES = [(0, 1), (1, 2), (1, 100), (2, 3), (9, 10), (99, 100)]


# A thing with a mind of its own about being asked, to be refused all the same.
class Stubborn:
    def __eq__(self, other):
        raise RuntimeError("not to be compared")

    def __bool__(self):
        raise RuntimeError("not to be asked for its truth")

    def __len__(self):
        raise RuntimeError("not to be measured")


# A thing that says of itself that it is whatever it is held against.
class Flatterer:
    def __eq__(self, other):
        return True

    def __hash__(self):
        return 0


ODD = [True, False, 0.0, 1.0, 0.5, 1j, b"", b"x", "", "0", "x", "None", [], [0], [None], (), (0,), (0, 1), (1, 2, 3),
       {}, {0: 0}, {0}, Fraction(0), Fraction(1), object(), Stubborn(), Flatterer(), list, Hall]
NO_LISTS = [thing for thing in ODD if not isinstance(thing, list)] + [
    None, 0, 1, 3, (0, None, 0), {0: 0, 1: None, 2: 0}, range(3), "012"]

THREE = "\n".join([
    "share 1/2", "room x", "door a 1 sure y", "door b -3/2 even x z", "door c 0 toss 1/3 z y", "room y", "room z",
    "door a 5 mixed x 1/4 y 1/4 z 1/2", "door b 0 sure z",
])


class Numbers:
    """Numbers that are always the same ones, without any order that meets the eye."""

    def __init__(self, seed):
        self.state = seed

    def below(self, many):
        found = 0
        while found < many:
            self.state = (self.state * 6364136223846793005 + 1442695040888963407) % 2 ** 64
            found = (found << 31) + (self.state >> 33) + 1
        return found % many

    def fraction(self, large):
        return Fraction(self.below(2 * large + 1) - large, 1 + self.below(large))


def pair(number):
    return (Fraction(number).numerator, Fraction(number).denominator)


def names_of(many):
    return [chr(97 + room) for room in range(many)]


def some_door(numbers, name, rooms, large):
    """A door of any sort, to any of the rooms."""
    pay = pair(numbers.fraction(large))
    told = [rooms[numbers.below(len(rooms))] for k in range(1 + numbers.below(8))]
    sort = numbers.below(4)
    if sort == 0:
        return Sure(name, pay, told[0])
    if sort == 1:
        return Even(name, pay, told)
    if sort == 2:
        bottom = 1 + numbers.below(large)
        return Toss(name, pay, pair(Fraction(numbers.below(bottom + 1), bottom)), told[0], told[-1])
    parts = [1 + numbers.below(large) for k in told]
    return Mixed(name, pay, [(room, pair(Fraction(part, sum(parts)))) for room, part in zip(told, parts)])


def some_hall(numbers, share, doors, large):
    """A hall whose rooms have so many doors each."""
    rooms = names_of(len(doors))
    return Hall(share, [
        (room, [some_door(numbers, "d" + chr(97 + door), rooms, large) for door in range(many)])
        for room, many in zip(rooms, doors)
    ])


def small_halls(seed):
    """Halls of which all plans can be tried; few pays, so that many looks are equal."""
    numbers = Numbers(seed)
    told = []
    for share in SHARES:
        for doors in [[], [0], [1], [4], [0, 2], [2, 0, 3], [3, 3, 2], [1, 0, 3, 0, 2]]:
            told += [some_hall(numbers, share, doors, large) for large in [1, 2, 30]]
    return told


def all_plans(hall):
    doors = [len(hall.offers(room)) for room in range(hall.size())]
    return [list(plan) for plan in itertools.product(*[range(many) if many else [None] for many in doors])]


def corridor(many, share):
    """Rooms in a row; door 0 stays, door 1 goes on, and only in the last one staying pays."""
    names = names_of(many)
    rooms = []
    for room, name in enumerate(names):
        pay = ONE if room == many - 1 else NOUGHT
        rooms.append((name, [Sure("stay", pay, name), Sure("on", NOUGHT, names[min(room + 1, many - 1)])]))
    return Hall(share, rooms)


def modelled(hall, plan, worths):
    """The plan mended, as a model reckons it."""
    told = []
    for room, door in enumerate(plan):
        seen = []
        for name, pay, ways in hall.offers(room):
            behind = sum(Fraction(*chance) * Fraction(*worths[to]) for to, chance in ways)
            seen.append(Fraction(*pay) + Fraction(*hall.share) * behind)
        if door is not None and seen[door] < max(seen):
            door = seen.index(max(seen))
        told.append(door)
    return told


class Told(unittest.TestCase):
    def is_refused(self, kind, make):
        with self.assertRaises(HallError) as taken:
            make()
        self.assertIs(type(taken.exception), kind)
        return taken.exception

    def no_plan(self, make, room):
        found = self.is_refused(NoPlan, make).room
        self.assertEqual((type(found), found), (type(room), room))

    def refuses_plans(self, ask):
        """What is no plan, of any kind, is refused by the call, which is given a hall and a thing."""
        for text in ["share 0", "share 1/2\nroom x", THREE]:
            for thing in NO_LISTS:
                self.no_plan(lambda: ask(read(text), thing), None)
        hall = read(THREE)
        for plan in [[], [0], [0, None], [0, None, 0, 0], [Stubborn()]]:
            self.no_plan(lambda: ask(hall, plan), None)
        for room, right in enumerate([[0, 1, 2], [None], [0, 1]]):
            for thing in ODD + [None, -1, 0, 1, 2, 3, LONG, -LONG]:
                if type(thing) not in (int, type(None)) or thing not in right:
                    plan = [1, None, 1]
                    plan[room] = thing
                    self.no_plan(lambda: ask(hall, plan), room)
        self.no_plan(lambda: ask(hall, [3, 0, 2]), 0)
        self.no_plan(lambda: ask(hall, [2, 0, 2]), 1)
        for thing in [[3, None, 0], [[0], None, 0], [0, None], {0: [0]}, [0, [None], {}]]:
            kept = copy.deepcopy(thing)
            self.is_refused(NoPlan, lambda: ask(hall, thing))
            self.assertEqual(thing, kept)


class Mended(Told):
    def is_mended(self, hall, plan, worths, wanted):
        kept = (list(plan), list(worths), show(hall))
        told = mended(hall, plan, worths)
        self.assertEqual(told, wanted)
        self.assertIs(type(told), list)
        self.assertIs(check_plan(hall, told), True)
        self.assertIsNot(told, plan)
        self.assertEqual((plan, worths, show(hall)), kept)

    def doors(self, pays, plan, wanted):
        """One room, whose doors lead to a room without doors and pay so much."""
        hall = Hall(HALF, [("x", [Sure("d" + chr(97 + door), pay, "y") for door, pay in enumerate(pays)]), ("y", [])])
        self.is_mended(hall, [plan, None], [NOUGHT, NOUGHT], [wanted, None])

    def test_no_room(self):
        self.is_mended(Hall(HALF, []), [], [], [])

    def test_rooms_without_doors(self):
        self.is_mended(Hall(HALF, [("x", [])]), [None], [(7, 1)], [None])
        self.is_mended(Hall(HALF, [("x", []), ("y", [])]), [None, None], [(7, 1), (-1, 2)], [None, None])

    def test_one_door(self):
        self.doors([(-5, 1)], 0, 0)

    def test_a_greater_look_is_taken(self):
        self.doors([ONE, (2, 1)], 0, 1)
        self.doors([(2, 1), ONE], 1, 0)
        self.doors([(-2, 1), (-1, 1)], 0, 1)
        self.doors([(1, 3), (1, 2), (2, 5)], 0, 1)
        self.doors([(1, 3), (1, 2), (2, 5)], 2, 1)

    def test_the_own_door_is_kept_where_it_is_as_good_as_the_greatest(self):
        for many in range(1, 7):
            for door in range(many):
                self.doors([ONE] * many, door, door)
        self.doors([ONE, NOUGHT, ONE, ONE], 3, 3)
        self.doors([ONE, NOUGHT, ONE, ONE], 2, 2)
        self.doors([(2, 1), ONE, (2, 1)], 2, 2)

    def test_of_several_greatest_ones_the_first_is_taken(self):
        self.doors([ONE, NOUGHT, ONE, ONE], 1, 0)
        self.doors([NOUGHT, ONE, (2, 1), ONE, (2, 1), (2, 1)], 0, 2)
        self.doors([NOUGHT, ONE, (2, 1), ONE, (2, 1), (2, 1)], 1, 2)
        self.doors([NOUGHT, ONE, (2, 1), ONE, (2, 1), (2, 1)], 3, 2)
        self.doors([NOUGHT, ONE, (2, 1), ONE, (2, 1), (2, 1)], 4, 4)

    def test_looks_that_are_equal_though_pays_are_not(self):
        hall = Hall(HALF, [("x", [Sure("a", NOUGHT, "y"), Sure("b", ONE, "x")]), ("y", [])])
        self.is_mended(hall, [0, None], [NOUGHT, (2, 1)], [0, None])
        self.is_mended(hall, [1, None], [NOUGHT, (2, 1)], [1, None])
        self.is_mended(hall, [0, None], [NOUGHT, (2 * LONG - 1, LONG)], [1, None])
        self.is_mended(hall, [1, None], [NOUGHT, (2 * LONG + 1, LONG)], [0, None])

    def test_looks_that_are_all_but_equal(self):
        near = (LONG - 1, LONG)
        nearer = (LONG, LONG + 1)
        self.doors([near, nearer], 0, 1)
        self.doors([near, nearer], 1, 1)
        self.doors([nearer, near], 1, 0)
        self.doors([near, nearer, ONE], 1, 2)

    def test_share_nought_looks_at_pays_alone(self):
        hall = Hall((0, 1), [("x", [Sure("a", NOUGHT, "y"), Sure("b", (1, LONG), "x")]), ("y", [])])
        self.is_mended(hall, [0, None], [(-LONG, 1), (LONG, 1)], [1, None])

    def test_three_rooms(self):
        hall = read(THREE)
        # By these worths the looks of x are -1, 1/2, -1/3, those of z 25/4 and 3.
        worths = [(2, 1), (-4, 1), (6, 1)]
        for plan in all_plans(hall):
            self.is_mended(hall, plan, worths, [1, None, 0])

    def test_each_plan_of_small_halls(self):
        numbers = Numbers(21)
        for hall in small_halls(22):
            many = hall.size()
            for worths in [[NOUGHT] * many, [(-7, 3)] * many, [(LONG, 3)] * many,
                           [pair(numbers.fraction(2)) for room in range(many)],
                           [pair(numbers.fraction(LONG)) for room in range(many)]]:
                for plan in all_plans(hall):
                    self.is_mended(hall, plan, worths, modelled(hall, plan, worths))

    def test_as_many_rooms_and_doors_as_they_come(self):
        numbers = Numbers(23)
        for large in [1, 10, LONG]:
            hall = some_hall(numbers, (99, 100), [6] * 12, large)
            for plan in [[0] * 12, [5] * 12, [room % 6 for room in range(12)]]:
                for worths in [[pair(numbers.fraction(LONG)) for room in range(12)], worths_of(hall, plan)]:
                    self.is_mended(hall, plan, worths, modelled(hall, plan, worths))

    def test_arguments_by_their_names(self):
        told = mended(hall=read(THREE), plan=[0, None, 1], worths=[(2, 1), (-4, 1), (6, 1)])
        self.assertEqual(told, [1, None, 0])

    def test_what_is_no_plan(self):
        self.refuses_plans(lambda hall, thing: mended(hall, thing, [ONE] * hall.size()))

    def test_lists_told_are_the_askers_own(self):
        hall = read(THREE)
        plan = [0, None, 0]
        worths = [(2, 1), (-4, 1), (6, 1)]
        one = mended(hall, plan, worths)
        other = mended(hall, plan, worths)
        other[0] = 2
        other.clear()
        plan[0] = 2
        worths[1] = (100, 1)
        self.assertEqual(one, [1, None, 0])
        self.assertEqual(mended(hall, [0, None, 1], worths), [0, None, 0])
        one.append(0)
        worths[1] = (-4, 1)
        self.assertEqual(mended(hall, plan, worths), [1, None, 0])
        self.assertEqual(plan, [2, None, 0])

    def test_a_plan_that_is_kept_is_told_as_a_list_of_its_own(self):
        hall = read(THREE)
        plan = [1, None, 0]
        told = mended(hall, plan, [(2, 1), (-4, 1), (6, 1)])
        told[0] = 0
        self.assertEqual(plan, [1, None, 0])


class Mendings(Told):
    def are_mendings(self, hall, plan):
        """The mendings of the plan, held against all that is told of them."""
        kept = (list(plan), show(hall))
        told = mendings(hall, plan)
        self.assertEqual((plan, show(hall)), kept)
        self.assertIs(type(told), list)
        for pairs in told:
            self.assertIs(type(pairs), tuple)
            self.assertEqual([type(part) for part in pairs], [list, list])
            self.assertIs(check_plan(hall, pairs[0]), True)
            self.assertTrue(all(is_ratio(worth) for worth in pairs[1]))
            self.assertEqual(pairs[1], worths_of(hall, pairs[0]))
        self.assertEqual(told[0][0], plan)
        for ahead, behind in zip(told, told[1:]):
            self.assertEqual(behind[0], modelled(hall, ahead[0], ahead[1]))
            self.assertNotEqual(behind[0], ahead[0])
            rises = [Fraction(*new) - Fraction(*old) for old, new in zip(ahead[1], behind[1])]
            self.assertGreaterEqual(min(rises), 0)
            self.assertGreater(max(rises), 0)
        self.assertEqual(modelled(hall, told[-1][0], told[-1][1]), told[-1][0])
        return told

    def test_no_room(self):
        self.assertEqual(mendings(Hall(HALF, []), []), [([], [])])

    def test_rooms_without_doors(self):
        self.assertEqual(mendings(Hall(HALF, [("x", []), ("y", [])]), [None, None]), [([None, None], [NOUGHT, NOUGHT])])

    def test_a_plan_that_is_left_as_it_is(self):
        hall = Hall(HALF, [("x", [Sure("a", ONE, "x"), Sure("b", NOUGHT, "x"), Sure("c", ONE, "x")])])
        self.assertEqual(mendings(hall, [0]), [([0], [(2, 1)])])
        self.assertEqual(mendings(hall, [2]), [([2], [(2, 1)])])
        self.assertEqual(mendings(hall, [1]), [([1], [NOUGHT]), ([0], [(2, 1)])])

    def test_a_corridor_is_mended_from_its_end(self):
        hall = corridor(4, HALF)
        last = (2, 1)
        self.assertEqual(mendings(hall, [0, 0, 0, 1]), [
            ([0, 0, 0, 1], [NOUGHT, NOUGHT, NOUGHT, NOUGHT]),
            ([0, 0, 0, 0], [NOUGHT, NOUGHT, NOUGHT, last]),
            ([0, 0, 1, 0], [NOUGHT, NOUGHT, ONE, last]),
            ([0, 1, 1, 0], [NOUGHT, HALF, ONE, last]),
            ([1, 1, 1, 0], [(1, 4), HALF, ONE, last]),
        ])

    def test_long_corridors(self):
        for many in [1, 2, 7, 12]:
            for share in [(1, 100), HALF, (99, 100)]:
                hall = corridor(many, share)
                told = self.are_mendings(hall, [0] * (many - 1) + [1])
                self.assertEqual(len(told), many + 1)
                self.assertEqual(told[-1][0], [1] * (many - 1) + [0])
                self.assertEqual(len(mendings(hall, [0] * many)), many)
                self.assertEqual(len(mendings(hall, [1] * (many - 1) + [0])), 1)

    def test_three_rooms(self):
        hall = read(THREE)
        # Of x by the worths of the first plan: 1, -3/2 + (1 + 41/6) / 4 = 11/24, 41/36.
        told = mendings(hall, [0, None, 0])
        self.assertEqual(told[0], ([0, None, 0], [ONE, NOUGHT, (41, 6)]))
        self.assertEqual(told[1][0], [2, None, 0])
        self.assertEqual(told[1:], [([2, None, 0], worths_of(hall, [2, None, 0]))])

    def test_each_plan_of_small_halls(self):
        for hall in small_halls(24):
            for plan in all_plans(hall):
                self.are_mendings(hall, plan)

    def test_all_mendings_end_with_the_same_worths(self):
        for hall in small_halls(25):
            best = best_of(hall)[1]
            for plan in all_plans(hall):
                self.assertEqual(mendings(hall, plan)[-1][1], best)

    def test_as_many_rooms_and_doors_as_they_come(self):
        numbers = Numbers(26)
        for large in [1, 30, 10 ** 12]:
            hall = some_hall(numbers, (99, 100), [6] * 12, large)
            for plan in [[0] * 12, [room % 6 for room in range(12)]]:
                self.are_mendings(hall, plan)

    def test_numbers_of_many_figures(self):
        numbers = Numbers(27)
        for share in SHARES:
            hall = some_hall(numbers, share, [3, 0, 4, 2], LONG)
            for plan in [[0, None, 0, 0], [2, None, 3, 1]]:
                self.are_mendings(hall, plan)

    def test_arguments_by_their_names(self):
        hall = corridor(2, HALF)
        self.assertEqual(mendings(hall=hall, plan=[1, 0]), [([1, 0], [ONE, (2, 1)])])

    def test_what_is_no_plan(self):
        self.refuses_plans(mendings)

    def test_lists_told_are_the_askers_own(self):
        hall = corridor(2, HALF)
        wanted = [([0, 1], [NOUGHT, NOUGHT]), ([0, 0], [NOUGHT, (2, 1)]), ([1, 0], [ONE, (2, 1)])]
        plan = [0, 1]
        one = mendings(hall, plan)
        other = mendings(hall, plan)
        for pairs in other:
            pairs[0][0] = 1
            pairs[1][0] = (9, 1)
            pairs[0].clear()
            pairs[1].clear()
        other.clear()
        self.assertEqual(plan, [0, 1])
        plan[0] = 1
        plan.append(0)
        self.assertEqual(one, wanted)
        for pairs in one:
            pairs[1].append(ONE)
            pairs[0].append(0)
        self.assertEqual(mendings(hall, [0, 1]), wanted)

    def test_no_two_lists_that_are_told_are_one(self):
        hall = corridor(3, HALF)
        plan = [0, 0, 1]
        told = mendings(hall, plan)
        lists = [plan] + [part for pairs in told for part in pairs]
        self.assertEqual(len({id(one) for one in lists}), len(lists))


class Best(Told):
    def is_best(self, hall):
        before = show(hall)
        told = best_of(hall)
        self.assertEqual(show(hall), before)
        self.assertIs(type(told), tuple)
        self.assertEqual([type(part) for part in told], [list, list])
        self.assertEqual(told, mendings(hall, first_plan(hall))[-1])
        self.assertEqual(told[1], worths_of(hall, told[0]))
        # No door of any room is better, so no row of plans is worth more either.
        for room in range(hall.size()):
            for look in looks(hall, room, told[1]):
                self.assertLessEqual(Fraction(*look), Fraction(*told[1][room]))
        return told

    def test_no_room(self):
        self.assertEqual(best_of(Hall((9, 10), [])), ([], []))

    def test_rooms_without_doors(self):
        self.assertEqual(best_of(Hall((9, 10), [("x", []), ("y", [])])), ([None, None], [NOUGHT, NOUGHT]))

    def test_the_first_plan_is_kept_where_it_is_as_good(self):
        hall = Hall(HALF, [("x", [Sure("a", ONE, "x"), Sure("b", ONE, "x")]),
                           ("y", [Sure("a", NOUGHT, "x"), Sure("b", (-1, 1), "x"), Sure("c", NOUGHT, "x")])])
        self.assertEqual(best_of(hall), ([0, 0], [(2, 1), ONE]))

    def test_of_several_best_doors_the_first_is_taken(self):
        hall = Hall(HALF, [("x", [Sure("a", NOUGHT, "x"), Sure("b", ONE, "x"), Sure("c", ONE, "x")])])
        self.assertEqual(best_of(hall), ([1], [(2, 1)]))

    def test_a_corridor(self):
        self.assertEqual(best_of(corridor(4, HALF)), ([1, 1, 1, 0], [(1, 4), HALF, ONE, (2, 1)]))

    def test_a_pay_now_against_a_pay_later(self):
        for share, wanted in [((0, 1), 0), (HALF, 0), ((9, 10), 0), ((10, 11), 0), ((11, 12), 1), ((99, 100), 1)]:
            hall = Hall(share, [("x", [Sure("now", (10, 1), "end"), Sure("wait", NOUGHT, "y")]),
                                ("y", [Sure("a", (11, 1), "end")]), ("end", [])])
            self.assertEqual(best_of(hall)[0], [wanted, 0, None])

    def test_no_plan_of_small_halls_is_worth_more(self):
        for hall in small_halls(28):
            best = [Fraction(*worth) for worth in self.is_best(hall)[1]]
            for plan in all_plans(hall):
                worths = [Fraction(*worth) for worth in worths_of(hall, plan)]
                self.assertTrue(all(worth <= most for worth, most in zip(worths, best)))

    def test_as_many_rooms_and_doors_as_they_come(self):
        numbers = Numbers(29)
        for large in [1, 30, 10 ** 6]:
            self.is_best(some_hall(numbers, (99, 100), [6] * 12, large))

    def test_argument_by_its_name(self):
        self.assertEqual(best_of(hall=corridor(2, HALF)), ([1, 0], [ONE, (2, 1)]))

    def test_lists_told_are_the_askers_own(self):
        hall = corridor(2, HALF)
        one = best_of(hall)
        other = best_of(hall)
        for part in other:
            part[0] = None
            part.clear()
        self.assertEqual(one, ([1, 0], [ONE, (2, 1)]))
        one[0].append(0)
        one[1].append(ONE)
        self.assertEqual(best_of(hall), ([1, 0], [ONE, (2, 1)]))


if __name__ == "__main__":
    unittest.main()
