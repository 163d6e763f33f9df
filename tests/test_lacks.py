"""[24] what a plan lacks, [25] the number k and the most mendings; [18] NoPlan and [2] over them."""

import copy
import itertools
import unittest
from fractions import Fraction

from chancehall.doors import Even, Mixed, Sure, Toss
from chancehall.errors import HallError, NoPlan
from chancehall.halls import Hall
from chancehall.lacks import lacks_of, most_mendings, wait_of
from chancehall.mending import best_of, mendings
from chancehall.plans import first_plan, looks
from chancehall.ratios import is_ratio
from chancehall.texts import read, show
from chancehall.wholes import is_whole
from chancehall.worths import visits_from, worths_of

LONG = 10 ** 59 + 7
NOUGHT = (0, 1)
ONE = (1, 1)
HALF = (1, 2)
SHARES = [(0, 1), (1, 2), (1, 100), (2, 3), (9, 10), (99, 100)]


# A thing with a mind of its own about being asked, to be refused all the same.
class Stubborn:
    def __eq__(self, other):
        raise RuntimeError("not to be compared")

    def __bool__(self):
        raise RuntimeError("not to be asked for its truth")

    def __len__(self):
        raise RuntimeError("not to be measured")


# A thing that says of itself that it is whatever it is held against.
class Flatterer:
    def __eq__(self, other):
        return True

    def __hash__(self):
        return 0


ODD = [True, False, 0.0, 1.0, 0.5, 1j, b"", b"x", "", "0", "x", "None", [], [0], [None], (), (0,), (0, 1), (1, 2, 3),
       {}, {0: 0}, {0}, Fraction(0), Fraction(1), object(), Stubborn(), Flatterer(), list, Hall]
NO_LISTS = [thing for thing in ODD if not isinstance(thing, list)] + [
    None, 0, 1, 3, (0, None, 0), {0: 0, 1: None, 2: 0}, range(3), "012"]

THREE = "\n".join([
    "share 1/2", "room x", "door a 1 sure y", "door b -3/2 even x z", "door c 0 toss 1/3 z y", "room y", "room z",
    "door a 5 mixed x 1/4 y 1/4 z 1/2", "door b 0 sure z",
])


class Numbers:
    """Numbers that are always the same ones, without any order that meets the eye."""

    def __init__(self, seed):
        self.state = seed

    def below(self, many):
        found = 0
        while found < many:
            self.state = (self.state * 6364136223846793005 + 1442695040888963407) % 2 ** 64
            found = (found << 31) + (self.state >> 33) + 1
        return found % many

    def fraction(self, large):
        return Fraction(self.below(2 * large + 1) - large, 1 + self.below(large))


def pair(number):
    return (Fraction(number).numerator, Fraction(number).denominator)


def names_of(many):
    return [chr(97 + room) for room in range(many)]


def some_door(numbers, name, rooms, large):
    """A door of any sort, to any of the rooms."""
    pay = pair(numbers.fraction(large))
    told = [rooms[numbers.below(len(rooms))] for k in range(1 + numbers.below(8))]
    sort = numbers.below(4)
    if sort == 0:
        return Sure(name, pay, told[0])
    if sort == 1:
        return Even(name, pay, told)
    if sort == 2:
        bottom = 1 + numbers.below(large)
        return Toss(name, pay, pair(Fraction(numbers.below(bottom + 1), bottom)), told[0], told[-1])
    parts = [1 + numbers.below(large) for k in told]
    return Mixed(name, pay, [(room, pair(Fraction(part, sum(parts)))) for room, part in zip(told, parts)])


def some_hall(numbers, share, doors, large):
    """A hall whose rooms have so many doors each."""
    rooms = names_of(len(doors))
    return Hall(share, [
        (room, [some_door(numbers, "d" + chr(97 + door), rooms, large) for door in range(many)])
        for room, many in zip(rooms, doors)
    ])


def small_halls(seed):
    """Halls of which all plans can be tried; few pays, so that many looks are equal."""
    numbers = Numbers(seed)
    told = []
    for share in SHARES:
        for doors in [[], [0], [1], [4], [0, 2], [2, 0, 3], [3, 3, 2], [1, 0, 3, 0, 2]]:
            told += [some_hall(numbers, share, doors, large) for large in [1, 2, 30]]
    return told


def all_plans(hall):
    doors = [len(hall.offers(room)) for room in range(hall.size())]
    return [list(plan) for plan in itertools.product(*[range(many) if many else [None] for many in doors])]


def corridor(many, share):
    """Rooms in a row; door 0 stays, door 1 goes on, and only in the last one staying pays."""
    names = names_of(many)
    rooms = []
    for room, name in enumerate(names):
        pay = ONE if room == many - 1 else NOUGHT
        rooms.append((name, [Sure("stay", pay, name), Sure("on", NOUGHT, names[min(room + 1, many - 1)])]))
    return Hall(share, rooms)


class Told(unittest.TestCase):
    def is_refused(self, kind, make):
        with self.assertRaises(HallError) as taken:
            make()
        self.assertIs(type(taken.exception), kind)
        return taken.exception

    def no_plan(self, make, room):
        found = self.is_refused(NoPlan, make).room
        self.assertEqual((type(found), found), (type(room), room))

    def refuses_plans(self, ask):
        """What is no plan, of any kind, is refused by the call, which is given a hall and a thing."""
        for text in ["share 0", "share 1/2\nroom x", THREE]:
            for thing in NO_LISTS:
                self.no_plan(lambda: ask(read(text), thing), None)
        hall = read(THREE)
        for plan in [[], [0], [0, None], [0, None, 0, 0], [Stubborn()]]:
            self.no_plan(lambda: ask(hall, plan), None)
        for room, right in enumerate([[0, 1, 2], [None], [0, 1]]):
            for thing in ODD + [None, -1, 0, 1, 2, 3, LONG, -LONG]:
                if type(thing) not in (int, type(None)) or thing not in right:
                    plan = [1, None, 1]
                    plan[room] = thing
                    self.no_plan(lambda: ask(hall, plan), room)
        self.no_plan(lambda: ask(hall, [3, 0, 2]), 0)
        self.no_plan(lambda: ask(hall, [2, 0, 2]), 1)
        for thing in [[3, None, 0], [[0], None, 0], [0, None], {0: [0]}, [0, [None], {}]]:
            kept = copy.deepcopy(thing)
            self.is_refused(NoPlan, lambda: ask(hall, thing))
            self.assertEqual(thing, kept)


class Lacks(Told):
    def lacking(self, hall, plan):
        """What the plan lacks, held against the looks of its doors and against the visits."""
        kept = (list(plan), show(hall))
        told = lacks_of(hall, plan)
        self.assertEqual((plan, show(hall)), kept)
        self.assertIs(type(told), list)
        self.assertEqual(len(told), hall.size())
        self.assertTrue(all(is_ratio(lack) for lack in told))
        lacks = [Fraction(*lack) for lack in told]
        best = best_of(hall)[1]
        worths = worths_of(hall, plan)
        for room, door in enumerate(plan):
            self.assertGreaterEqual(lacks[room], 0)
            if door is None:
                self.assertEqual(told[room], NOUGHT)
            else:
                self.assertEqual(lacks[room], Fraction(*best[room]) - Fraction(*looks(hall, room, best)[door]))
            visits = [Fraction(*visit) for visit in visits_from(hall, plan, room)]
            missed = sum(visit * lack for visit, lack in zip(visits, lacks))
            self.assertEqual(Fraction(*best[room]), Fraction(*worths[room]) + missed)
        return told

    def test_no_room(self):
        self.assertEqual(lacks_of(Hall((9, 10), []), []), [])

    def test_rooms_without_doors(self):
        self.assertEqual(lacks_of(Hall((9, 10), [("x", []), ("y", [])]), [None, None]), [NOUGHT, NOUGHT])

    def test_one_room(self):
        hall = Hall(HALF, [("x", [Sure("a", ONE, "x"), Sure("b", (-1, 3), "x"), Sure("c", ONE, "x")])])
        self.assertEqual(lacks_of(hall, [0]), [NOUGHT])
        self.assertEqual(lacks_of(hall, [1]), [(4, 3)])
        self.assertEqual(lacks_of(hall, [2]), [NOUGHT])

    def test_share_nought(self):
        hall = Hall((0, 1), [("x", [Sure("a", ONE, "x"), Sure("b", (5, 2), "y")]), ("y", [])])
        self.assertEqual(lacks_of(hall, [0, None]), [(3, 2), NOUGHT])
        self.assertEqual(lacks_of(hall, [1, None]), [NOUGHT, NOUGHT])

    def test_a_corridor(self):
        hall = corridor(4, HALF)
        # By the best worths 1/4, 1/2, 1, 2 staying looks like half of them, but for the pay of the last room.
        self.assertEqual(lacks_of(hall, [1, 1, 1, 0]), [NOUGHT] * 4)
        self.assertEqual(lacks_of(hall, [0, 0, 0, 0]), [(1, 8), (1, 4), HALF, NOUGHT])
        self.assertEqual(lacks_of(hall, [0, 1, 0, 1]), [(1, 8), NOUGHT, HALF, ONE])

    def test_the_best_plan_lacks_nought(self):
        for hall in small_halls(31):
            self.assertEqual(lacks_of(hall, best_of(hall)[0]), [NOUGHT] * hall.size())

    def test_just_the_plans_with_the_best_worths_lack_nought(self):
        for hall in small_halls(32):
            best = best_of(hall)[1]
            for plan in all_plans(hall):
                lacking = lacks_of(hall, plan) != [NOUGHT] * hall.size()
                self.assertEqual(lacking, worths_of(hall, plan) != best)

    def test_each_plan_of_small_halls(self):
        for hall in small_halls(33):
            for plan in all_plans(hall):
                self.lacking(hall, plan)

    def test_numbers_of_many_figures(self):
        numbers = Numbers(34)
        for share in SHARES:
            hall = some_hall(numbers, share, [3, 0, 4, 2], LONG)
            for plan in [[0, None, 0, 0], [2, None, 3, 1]]:
                self.lacking(hall, plan)

    def test_as_many_rooms_and_doors_as_they_come(self):
        numbers = Numbers(35)
        for large in [1, 30, 10 ** 6]:
            self.lacking(some_hall(numbers, (99, 100), [6] * 12, large), [5] * 12)

    def test_arguments_by_their_names(self):
        self.assertEqual(lacks_of(hall=corridor(2, HALF), plan=[0, 0]), [HALF, NOUGHT])

    def test_what_is_no_plan(self):
        self.refuses_plans(lacks_of)

    def test_lists_told_are_the_askers_own(self):
        hall = corridor(2, HALF)
        plan = [0, 1]
        one = lacks_of(hall, plan)
        other = lacks_of(hall, plan)
        other[0] = (9, 1)
        other.clear()
        plan[1] = 0
        self.assertEqual(one, [HALF, ONE])
        self.assertEqual(lacks_of(hall, plan), [HALF, NOUGHT])
        one.append(ONE)
        plan[1] = 1
        self.assertEqual(lacks_of(hall, plan), [HALF, ONE])
        self.assertEqual(best_of(hall), ([1, 0], [ONE, (2, 1)]))


def waited(share):
    """The number k, as a model reckons it."""
    many = 1
    left = Fraction(*share)
    while left >= 1 - Fraction(*share):
        left *= Fraction(*share)
        many += 1
    return many


class Wait(unittest.TestCase):
    def test_some_shares(self):
        # Of 1/2 one factor is not less than 1/2; of 99/100 there are 459, as 0.99 ** 458 is just above 1/100.
        for share, wanted in [((0, 1), 1), ((1, 100), 1), ((1, 3), 1), ((49, 99), 1), ((1, 2), 2), ((51, 100), 2),
                              ((3, 5), 2), ((2, 3), 3), ((3, 4), 5), ((9, 10), 22), ((99, 100), 459)]:
            found = wait_of(Hall(share, []))
            self.assertEqual(found, wanted)
            self.assertTrue(is_whole(found))

    def test_all_shares_of_small_bottoms(self):
        for bottom in range(1, 41):
            for top in range(bottom):
                share = (Fraction(top, bottom).numerator, Fraction(top, bottom).denominator)
                self.assertEqual(wait_of(Hall(share, [])), waited(share), share)

    def test_shares_near_one(self):
        for share in [(97, 98), (98, 99), (97, 100), (99, 100), (100, 101), (199, 200)]:
            self.assertEqual(wait_of(Hall(share, [])), waited(share), share)
        # 0.999 ** 6905 is the first below 1/1000.
        self.assertEqual(wait_of(Hall((999, 1000), [])), 6905)

    def test_rooms_do_not_matter(self):
        hall = read(THREE)
        before = show(hall)
        self.assertEqual([wait_of(hall), wait_of(hall)], [2, 2])
        self.assertEqual(show(hall), before)

    def test_argument_by_its_name(self):
        self.assertEqual(wait_of(hall=corridor(3, (9, 10))), 22)


class MostMendings(unittest.TestCase):
    def test_no_doors(self):
        for share in SHARES + [(99, 100)]:
            for many in [0, 1, 2, 12]:
                found = most_mendings(Hall(share, [(name, []) for name in names_of(many)]))
                self.assertEqual(found, 1)
                self.assertTrue(is_whole(found))

    def test_one_door_a_room(self):
        for many in [1, 2, 12]:
            hall = Hall((99, 100), [(name, [Sure("a", ONE, "a")]) for name in names_of(many)])
            self.assertEqual(most_mendings(hall), 1)
        self.assertEqual(most_mendings(read("share 9/10\nroom x\nroom y\ndoor a 1 sure x\nroom z")), 1)

    def test_several_doors(self):
        numbers = Numbers(36)
        for doors, many in [([2], 1), ([6], 5), ([0, 2], 1), ([1, 2], 1), ([2, 0, 3], 3), ([1, 1, 4, 0, 6], 8),
                            ([6] * 12, 60), ([0] * 11 + [3], 2)]:
            for share, wait in [((0, 1), 1), (HALF, 2), ((2, 3), 3), ((9, 10), 22), ((99, 100), 459)]:
                found = most_mendings(some_hall(numbers, share, doors, 5))
                self.assertEqual(found, 1 + wait * many)
                self.assertTrue(is_whole(found))

    def test_argument_by_its_name(self):
        self.assertEqual(most_mendings(hall=read(THREE)), 7)

    def test_mendings_of_all_plans_are_no_more(self):
        for hall in small_halls(37):
            most = most_mendings(hall)
            for plan in all_plans(hall):
                self.assertLessEqual(len(mendings(hall, plan)), most)

    def test_mendings_of_corridors_are_no_more(self):
        for many in [1, 2, 5, 12]:
            for share in SHARES:
                hall = corridor(many, share)
                for plan in [[0] * (many - 1) + [1], first_plan(hall)]:
                    self.assertLessEqual(len(mendings(hall, plan)), most_mendings(hall))

    def test_distances_shrink_by_the_share(self):
        for hall in small_halls(38) + [corridor(5, share) for share in SHARES]:
            best = [Fraction(*worth) for worth in best_of(hall)[1]]
            for plan in all_plans(hall):
                far = []
                for one, worths in mendings(hall, plan):
                    far.append(max([most - Fraction(*worth) for most, worth in zip(best, worths)], default=0))
                for ahead, behind in zip(far, far[1:]):
                    self.assertLessEqual(behind, Fraction(*hall.share) * ahead)

    def test_a_door_that_lacks_most_does_not_come_again(self):
        for hall in small_halls(39) + [corridor(5, share) for share in SHARES]:
            wait = wait_of(hall)
            for plan in all_plans(hall):
                plans = [one for one, worths in mendings(hall, plan)]
                for place, one in enumerate(plans):
                    lacks = [Fraction(*lack) for lack in lacks_of(hall, one)]
                    most = max(lacks, default=0)
                    for room in range(hall.size()):
                        if lacks[room] == most > 0:
                            later = [other[room] for other in plans[place + wait:]]
                            self.assertNotIn(one[room], later)


if __name__ == "__main__":
    unittest.main()
