"""[36] the bounds behind rounds and the plan of these rounds, [37] the rounds for a gap; NoNumber and [2] over them."""

import itertools
import unittest
from fractions import Fraction

from chancehall.bounds import bounds_of, round_plan, rounds_to
from chancehall.doors import Even, Mixed, Sure, Toss
from chancehall.errors import HallError, NoNumber
from chancehall.halls import Hall
from chancehall.mending import best_of
from chancehall.plans import check_plan, looks
from chancehall.ratios import is_ratio
from chancehall.rounds import best_rounds
from chancehall.texts import read, show
from chancehall.worths import worths_of

LONG = 10 ** 59 + 7
NOUGHT = (0, 1)
ONE = (1, 1)
HALF = (1, 2)
SHARES = [(0, 1), (1, 2), (2, 3), (99, 100)]


# A thing with a mind of its own about being asked, to be refused all the same.
class Stubborn:
    def __eq__(self, other):
        raise RuntimeError("not to be compared")

    def __bool__(self):
        raise RuntimeError("not to be asked for its truth")

    def __len__(self):
        raise RuntimeError("not to be measured")


# A thing that says of itself that it is whatever it is held against.
class Flatterer:
    def __eq__(self, other):
        return True

    def __hash__(self):
        return 0


ODD = [None, True, False, 0.0, 1.0, 0.5, 1j, b"", b"x", "", "0", "1", "1/2", "x", "None", [], [1], [None], (), (1,),
       (1, 2, 3), {}, {0: 0}, {1}, Fraction(0), Fraction(1, 2), Fraction(1), object(), Stubborn(), Flatterer(), list,
       Hall]
NO_ROUNDS = ODD + [0, -1, -2, 41, 42, 100, LONG, -LONG, 40.0, "40", (1, 1), (40, 1), (1, 2), [40], Fraction(40)]
NO_GAPS = ODD + [0, 1, -1, 2, 40, LONG, [1, 2], (2, 4), (0, 2), (3, 0), (0, 0), (1, -2), (-1, -1), (True, 1),
                 (1, True), (False, 1), (1.0, 2), (1, 2.0), ("1", "2"), (None, 1), (1, None), ((1, 1), 1),
                 (LONG * 3, 3), Fraction(2, 4)]

THREE = "\n".join([
    "share 1/2", "room x", "door a 1 sure y", "door b -3/2 even x z", "door c 0 toss 1/3 z y", "room y", "room z",
    "door a 5 mixed x 1/4 y 1/4 z 1/2", "door b 0 sure z",
])
# The greatest pays lead away from what pays later, so that another door is best behind each number of rounds.
TURNING = "\n".join([
    "share 1/2", "room x", "door a 1 sure end", "door b 0 sure y", "door c 0 sure z", "room y", "door a 4 sure end",
    "room z", "door a 0 sure w", "room w", "door a 32 sure end", "room end",
])


class Numbers:
    """Numbers that are always the same ones, without any order that meets the eye."""

    def __init__(self, seed):
        self.state = seed

    def below(self, many):
        found = 0
        while found < many:
            self.state = (self.state * 6364136223846793005 + 1442695040888963407) % 2 ** 64
            found = (found << 31) + (self.state >> 33) + 1
        return found % many

    def fraction(self, large):
        return Fraction(self.below(2 * large + 1) - large, 1 + self.below(large))


def pair(number):
    return (Fraction(number).numerator, Fraction(number).denominator)


def some_door(numbers, name, rooms, large):
    """A door of any sort, to any of the rooms."""
    pay = pair(numbers.fraction(large))
    told = [rooms[numbers.below(len(rooms))] for k in range(1 + numbers.below(8))]
    sort = numbers.below(4)
    if sort == 0:
        return Sure(name, pay, told[0])
    if sort == 1:
        return Even(name, pay, told)
    if sort == 2:
        bottom = 1 + numbers.below(large)
        return Toss(name, pay, pair(Fraction(numbers.below(bottom + 1), bottom)), told[0], told[-1])
    parts = [1 + numbers.below(large) for k in told]
    return Mixed(name, pay, [(room, pair(Fraction(part, sum(parts)))) for room, part in zip(told, parts)])


def some_hall(numbers, share, doors, large):
    """A hall whose rooms have so many doors each."""
    rooms = [chr(97 + room) for room in range(len(doors))]
    return Hall(share, [
        (room, [some_door(numbers, "d" + chr(97 + door), rooms, large) for door in range(many)])
        for room, many in zip(rooms, doors)
    ])


def wide_hall(numbers):
    """A hall of as many rooms, doors and ways as they come, each with numbers of sixty figures."""
    rooms = [chr(97 + room) for room in range(12)]
    told = []
    for room in rooms:
        doors = []
        for door in range(6):
            parts = [1 + numbers.below(LONG // 10) for k in range(8)]
            pairs = [(rooms[numbers.below(12)], pair(Fraction(part, sum(parts)))) for part in parts]
            doors.append(Mixed("d" + chr(97 + door), pair(numbers.fraction(LONG)), pairs))
        told.append((room, doors))
    return Hall((99, 100), told)


def small_halls(seed):
    """Halls with rooms of no, one and several doors."""
    numbers = Numbers(seed)
    told = []
    for share in SHARES:
        for doors in [[], [0], [1], [3], [0, 2], [2, 0, 3], [2, 2, 2, 0], [1, 0, 3, 0, 2, 1]]:
            told += [some_hall(numbers, share, doors, large) for large in [1, 3, LONG]]
    return told


def model_looks(hall, room, worths):
    told = []
    for name, pay, ways in hall.offers(room):
        behind = sum((Fraction(*chance) * worths[to] for to, chance in ways), Fraction(0))
        told.append(Fraction(*pay) + Fraction(*hall.share) * behind)
    return told


def model_rounds(hall, many):
    """The rounds, one more than asked."""
    told = [[Fraction(0)] * hall.size()]
    for k in range(many):
        told.append([max(model_looks(hall, room, told[-1]), default=Fraction(0)) for room in range(hall.size())])
    return told


def model_bounds(hall, many):
    """The sums of [36]."""
    rounds = model_rounds(hall, many)
    gains = [one - ahead for one, ahead in zip(rounds[-1], rounds[-2])]
    often = Fraction(*hall.share) / (1 - Fraction(*hall.share))
    return ([one + often * min(gains) for one in rounds[-1]], [one + often * max(gains) for one in rounds[-1]])


def model_distances(hall, many):
    """The distance between highs and lows behind 1, 2 and so on up to so many rounds; the hall has rooms."""
    told = []
    for k in range(1, many + 1):
        lows, highs = model_bounds(hall, k)
        told.append(highs[0] - lows[0])
    return told


def values(fractions):
    return [Fraction(*one) for one in fractions]


class Told(unittest.TestCase):
    def is_refused(self, make):
        with self.assertRaises(HallError) as taken:
            make()
        self.assertIs(type(taken.exception), NoNumber)
        return taken.exception

    def refuses_numbers(self, ask):
        """What is no whole number from 1 to 40, of any kind, is refused by the call, given a hall and a thing."""
        for text in ["share 0", "share 1/2\nroom x", THREE]:
            for thing in NO_ROUNDS:
                self.is_refused(lambda: ask(read(text), thing))
        inner = [1]
        thing = [inner]
        self.is_refused(lambda: ask(read(THREE), thing))
        self.assertEqual((thing, inner), ([[1]], [1]))

    def bounds(self, hall, many):
        """The bounds that are told, as two lists of values; the form held against [36], the hall left as it was."""
        before = show(hall)
        told = bounds_of(hall, many)
        self.assertEqual(show(hall), before)
        self.assertIs(type(told), tuple)
        self.assertEqual(len(told), 2)
        for part in told:
            self.assertIs(type(part), list)
            self.assertEqual(len(part), hall.size())
            for number in part:
                self.assertTrue(is_ratio(number), number)
        return (values(told[0]), values(told[1]))


class BoundsOf(Told):
    def test_no_room(self):
        for share in SHARES:
            for many in [1, 2, 7, 40]:
                self.assertEqual(bounds_of(Hall(share, []), many), ([], []))

    def test_rooms_without_doors(self):
        for share in SHARES:
            for many in [1, 2, 40]:
                told = bounds_of(Hall(share, [("x", []), ("y", [])]), many)
                self.assertEqual(told, ([NOUGHT, NOUGHT], [NOUGHT, NOUGHT]))

    def test_one_room_has_one_bound(self):
        # Behind n rounds there is 2 - 2 / 2 ^ n, and the last gain once more is still to come.
        hall = Hall(HALF, [("x", [Sure("a", ONE, "x")])])
        for many in [1, 2, 3, 40]:
            self.assertEqual(bounds_of(hall, many), ([(2, 1)], [(2, 1)]))
        hall = Hall((99, 100), [("x", [Sure("a", ONE, "x"), Sure("b", NOUGHT, "x")])])
        self.assertEqual(bounds_of(hall, 1), ([(100, 1)], [(100, 1)]))

    def test_a_room_that_gains_and_one_that_does_not(self):
        hall = Hall(HALF, [("x", [Sure("a", ONE, "x")]), ("y", [])])
        self.assertEqual(bounds_of(hall, 1), ([ONE, NOUGHT], [(2, 1), ONE]))
        self.assertEqual(bounds_of(hall, 2), ([(3, 2), NOUGHT], [(2, 1), HALF]))
        self.assertEqual(bounds_of(hall, 3), ([(7, 4), NOUGHT], [(2, 1), (1, 4)]))
        self.assertEqual(bounds_of(hall, 40)[0], [(2 ** 40 - 1, 2 ** 39), NOUGHT])
        self.assertEqual(bounds_of(hall, 40)[1], [(2, 1), (1, 2 ** 39)])

    def test_gains_below_nought(self):
        hall = Hall(HALF, [("x", [Sure("a", (-1, 1), "x")]), ("y", [])])
        self.assertEqual(bounds_of(hall, 1), ([(-2, 1), (-1, 1)], [(-1, 1), NOUGHT]))
        self.assertEqual(bounds_of(hall, 2), ([(-2, 1), (-1, 2)], [(-3, 2), NOUGHT]))

    def test_three_parts_of_a_share(self):
        # The gains are 1, 3 and 0; three quarters over one quarter of them are still to come.
        hall = Hall((3, 4), [("x", [Sure("a", ONE, "x")]), ("y", [Sure("a", (3, 1), "z")]), ("z", [])])
        self.assertEqual(bounds_of(hall, 1), ([ONE, (3, 1), NOUGHT], [(10, 1), (12, 1), (9, 1)]))
        self.assertEqual(bounds_of(hall, 2), ([(7, 4), (3, 1), NOUGHT], [(4, 1), (21, 4), (9, 4)]))

    def test_share_nought_tells_the_greatest_pays(self):
        numbers = Numbers(201)
        for doors in [[1], [2, 0, 3], [6] * 4]:
            hall = some_hall(numbers, (0, 1), doors, LONG)
            pays = [max([Fraction(*offer[1]) for offer in hall.offers(room)], default=0) for room in range(len(doors))]
            for many in [1, 2, 40]:
                self.assertEqual(self.bounds(hall, many), (pays, pays))

    def test_shares_near_one(self):
        numbers = Numbers(202)
        for share in [(99, 100), (98, 99), (999, 1000), (LONG - 1, LONG)]:
            hall = some_hall(numbers, share, [2, 0, 3], 3)
            for many in [1, 2, 6, 40]:
                self.assertEqual(self.bounds(hall, many), model_bounds(hall, many))

    def test_the_sums_of_the_point(self):
        for hall in small_halls(203):
            for many in [1, 2, 3, 6]:
                if hall.size() > 0:
                    self.assertEqual(self.bounds(hall, many), model_bounds(hall, many))

    def test_they_come_of_the_rounds_that_are_told(self):
        hall = read(THREE)
        for many in [1, 2, 11, 40]:
            rounds = [values(one) for one in best_rounds(hall, many)]
            gains = [one - ahead for one, ahead in zip(rounds[-1], rounds[-2])]
            # The share is a half, so the gain itself is added.
            lows, highs = self.bounds(hall, many)
            self.assertEqual(lows, [one + min(gains) for one in rounds[-1]])
            self.assertEqual(highs, [one + max(gains) for one in rounds[-1]])

    def test_best_worths_lie_between(self):
        for hall in small_halls(204) + [read(THREE), read(TURNING)]:
            best = values(best_of(hall)[1])
            for many in [1, 2, 5]:
                lows, highs = self.bounds(hall, many)
                for low, worth, high in zip(lows, best, highs):
                    self.assertLessEqual(low, worth)
                    self.assertLessEqual(worth, high)

    def test_from_one_number_of_rounds_to_the_next(self):
        for hall in small_halls(205)[::2] + [read(THREE), read(TURNING)]:
            ahead = None
            for many in range(1, 9):
                lows, highs = self.bounds(hall, many)
                distances = {high - low for low, high in zip(lows, highs)}
                self.assertLessEqual(len(distances), 1)
                if ahead is not None and lows:
                    self.assertTrue(all(one <= low for one, low in zip(ahead[0], lows)))
                    self.assertTrue(all(one >= high for one, high in zip(ahead[1], highs)))
                    self.assertLessEqual(highs[0] - lows[0], Fraction(*hall.share) * (ahead[1][0] - ahead[0][0]))
                ahead = (lows, highs)

    def test_forty_rounds(self):
        numbers = Numbers(206)
        for share in SHARES:
            for doors in [[2, 0, 3], [1, 2, 0, 2]]:
                hall = some_hall(numbers, share, doors, 3)
                lows, highs = self.bounds(hall, 40)
                self.assertEqual((lows, highs), model_bounds(hall, 40))
                best = values(best_of(hall)[1])
                self.assertTrue(all(low <= worth <= high for low, worth, high in zip(lows, best, highs)))

    def test_as_many_rooms_and_doors_as_they_come(self):
        numbers = Numbers(207)
        for large, many in [(1, 40), (10, 40), (LONG, 3)]:
            hall = some_hall(numbers, (99, 100), [6] * 12, large)
            self.assertEqual(self.bounds(hall, many), model_bounds(hall, many))

    def test_what_is_no_number_of_rounds(self):
        self.refuses_numbers(bounds_of)

    def test_arguments_by_their_names(self):
        self.assertEqual(bounds_of(hall=Hall(HALF, [("x", [])]), many=1), ([NOUGHT], [NOUGHT]))

    def test_lists_told_are_the_askers_own(self):
        hall = Hall(HALF, [("x", [Sure("a", ONE, "x")]), ("y", [])])
        # Without a share the lows are the highs, and in a hall without rooms both are empty.
        for one, many in [(hall, 2), (Hall(NOUGHT, [("x", [Sure("a", ONE, "x")])]), 3), (Hall(HALF, []), 1)]:
            wanted = [list(part) for part in bounds_of(one, many)]
            told = bounds_of(one, many)
            other = bounds_of(one, many)
            self.assertEqual(len({id(part) for part in told + other}), 4)
            told[0].append((7, 1))
            self.assertEqual(told[1], wanted[1])
            told[1].clear()
            self.assertEqual([list(part) for part in other], wanted)
            self.assertEqual([list(part) for part in bounds_of(one, many)], wanted)


class RoundPlan(Told):
    def plan(self, hall, many):
        before = show(hall)
        told = round_plan(hall, many)
        self.assertEqual(show(hall), before)
        self.assertIs(type(told), list)
        self.assertIs(check_plan(hall, told), True)
        return told

    def test_no_room(self):
        for many in [1, 2, 40]:
            self.assertEqual(round_plan(Hall(HALF, []), many), [])

    def test_rooms_without_doors(self):
        for many in [1, 2, 40]:
            self.assertEqual(round_plan(Hall(HALF, [("x", []), ("y", [])]), many), [None, None])

    def test_one_round_takes_the_first_of_the_greatest_pays(self):
        doors = [Sure("a", (-2, 1), "x"), Sure("b", HALF, "x"), Sure("c", HALF, "y"), Sure("d", (1, 3), "x")]
        hall = Hall((99, 100), [("x", doors), ("y", []), ("z", list(reversed(doors)))])
        self.assertEqual(round_plan(hall, 1), [1, None, 1])

    def test_another_door_behind_each_number_of_rounds(self):
        hall = read(TURNING)
        self.assertEqual([round_plan(hall, many)[0] for many in [1, 2, 3, 4, 40]], [0, 1, 2, 2, 2])
        self.assertEqual(round_plan(hall, 3), [2, 0, 0, 0, None])

    def test_where_looks_are_alike_the_first_one(self):
        # Behind one round all pay alike; behind two b and c look alike, and both are above a.
        hall = Hall(HALF, [("x", [Sure("a", ONE, "end"), Sure("b", ONE, "y"), Sure("c", ONE, "y")]),
                           ("y", [Sure("a", ONE, "end"), Sure("b", ONE, "end")]), ("end", [])])
        self.assertEqual(round_plan(hall, 1), [0, 0, None])
        self.assertEqual(round_plan(hall, 2), [1, 0, None])

    def test_share_nought(self):
        hall = Hall((0, 1), [("x", [Sure("a", ONE, "y"), Sure("b", (2, 1), "x")]), ("y", [Sure("a", (9, 1), "y")])])
        for many in [1, 2, 40]:
            self.assertEqual(round_plan(hall, many), [1, 0])

    def test_the_first_door_with_the_greatest_look(self):
        for hall in small_halls(211) + [read(THREE), read(TURNING)]:
            for many in [1, 2, 3, 6]:
                ahead = model_rounds(hall, many - 1)[-1]
                seen = [model_looks(hall, room, ahead) for room in range(hall.size())]
                wanted = [one.index(max(one)) if one else None for one in seen]
                self.assertEqual(self.plan(hall, many), wanted)

    def test_by_the_looks_that_are_told(self):
        hall = read(THREE)
        for many in [1, 2, 40]:
            ahead = best_rounds(hall, many)[-2]
            for room, door in enumerate(self.plan(hall, many)):
                seen = values(looks(hall, room, ahead))
                self.assertEqual(door, seen.index(max(seen)) if seen else None)

    def test_its_worths_are_not_below_the_lows(self):
        for hall in small_halls(212)[::2] + [read(THREE), read(TURNING)]:
            for many in [1, 2, 4]:
                worths = values(worths_of(hall, self.plan(hall, many)))
                lows, highs = self.bounds(hall, many)
                for low, worth, high in zip(lows, worths, highs):
                    self.assertLessEqual(low, worth)
                    self.assertLessEqual(worth, high)

    def test_forty_rounds(self):
        numbers = Numbers(213)
        for share in SHARES:
            hall = some_hall(numbers, share, [2, 0, 3, 6], 3)
            plan = self.plan(hall, 40)
            lows = self.bounds(hall, 40)[0]
            self.assertTrue(all(low <= worth for low, worth in zip(lows, values(worths_of(hall, plan)))))

    def test_what_is_no_number_of_rounds(self):
        self.refuses_numbers(round_plan)

    def test_arguments_by_their_names(self):
        self.assertEqual(round_plan(hall=Hall(HALF, [("x", [])]), many=1), [None])

    def test_lists_told_are_the_askers_own(self):
        hall = read(TURNING)
        one = round_plan(hall, 1)
        other = round_plan(hall, 1)
        self.assertIsNot(one, other)
        one[0] = 2
        one.clear()
        self.assertEqual(other, [0, 0, 0, 0, None])
        self.assertEqual(round_plan(hall, 1), [0, 0, 0, 0, None])


class RoundsTo(Told):
    def number(self, hall, gap, most):
        """What is told, for a gap told as a number."""
        before = show(hall)
        told = rounds_to(hall, pair(gap), most)
        self.assertEqual(show(hall), before)
        self.assertIn(type(told), [int, type(None)])
        return told

    def test_no_room(self):
        for share in SHARES:
            for gap in [NOUGHT, ONE, (-1, 1), (-LONG, 3), (LONG, 1), (-1, LONG)]:
                for most in [1, 2, 40]:
                    self.assertEqual(rounds_to(Hall(share, []), gap, most), 1)

    def test_rooms_without_doors(self):
        hall = Hall(HALF, [("x", []), ("y", [])])
        for most in [1, 40]:
            self.assertEqual(rounds_to(hall, NOUGHT, most), 1)
            self.assertEqual(rounds_to(hall, ONE, most), 1)
            self.assertIsNone(rounds_to(hall, (-1, LONG), most))

    def test_a_distance_that_is_halved_each_round(self):
        # The distance is 1 behind one round, 1/2 behind two, and so on.
        hall = Hall(HALF, [("x", [Sure("a", ONE, "x")]), ("y", [])])
        for gap, wanted in [((LONG, 1), 1), ((3, 2), 1), (ONE, 1), ((2, 3), 2), (HALF, 2), ((1, 3), 3), ((1, 4), 3),
                            ((1, 5), 4), ((1, 2 ** 39), 40), ((1, 2 ** 39 + 1), None), (NOUGHT, None),
                            ((-1, 2), None), ((-LONG, 1), None)]:
            self.assertEqual(rounds_to(hall, gap, 40), wanted)

    def test_the_most_decides_where_there_is_none(self):
        hall = Hall(HALF, [("x", [Sure("a", ONE, "x")]), ("y", [])])
        for most in range(1, 41):
            self.assertEqual(rounds_to(hall, (1, 2 ** 20), most), 21 if most >= 21 else None)
            self.assertEqual(rounds_to(hall, (1, 2 ** (most - 1)), most), most)
            self.assertIsNone(rounds_to(hall, (1, 2 ** (most - 1) + 1), most))

    def test_one_room_has_no_distance(self):
        hall = Hall((99, 100), [("x", [Sure("a", ONE, "x"), Sure("b", (2, 1), "x")])])
        self.assertEqual(rounds_to(hall, NOUGHT, 1), 1)
        self.assertIsNone(rounds_to(hall, (-1, LONG), 40))

    def test_share_nought(self):
        for hall in [some_hall(Numbers(221), (0, 1), [2, 0, 3], LONG), Hall((0, 1), [("x", [])])]:
            self.assertEqual(rounds_to(hall, NOUGHT, 40), 1)
            self.assertEqual(rounds_to(hall, NOUGHT, 1), 1)
            self.assertIsNone(rounds_to(hall, (-1, 1), 40))

    def test_a_distance_that_ends(self):
        # Behind four rounds nothing is gained any more.
        hall = read(TURNING)
        self.assertEqual(model_distances(hall, 5), [32, 16, 6, 0, 0])
        for gap, wanted in [(33, 1), (32, 1), (31, 2), (16, 2), (15, 3), (6, 3), (5, 4), (0, 4)]:
            self.assertEqual(self.number(hall, gap, 40), wanted)
        self.assertEqual(self.number(hall, Fraction(1, LONG), 40), 4)
        self.assertIsNone(self.number(hall, 0, 3))

    def test_gaps_above_at_and_below_each_distance(self):
        for hall in small_halls(222):
            if hall.size() == 0:
                continue
            distances = model_distances(hall, 5)
            gaps = set(distances) | {one + Fraction(1, LONG) for one in distances} | {0, -1}
            gaps |= {one - Fraction(1, LONG) for one in distances} | {one * Fraction(9, 10) for one in distances}
            for gap, most in itertools.product(sorted(gaps), [1, 2, 5]):
                fit = [many for many, one in enumerate(distances[:most], start=1) if one <= gap]
                self.assertEqual(self.number(hall, gap, most), fit[0] if fit else None)

    def test_it_is_held_against_the_bounds(self):
        numbers = Numbers(223)
        for share in SHARES:
            hall = some_hall(numbers, share, [2, 0, 3], 3)
            lows, highs = self.bounds(hall, 9)
            told = self.number(hall, highs[0] - lows[0], 40)
            self.assertLessEqual(told, 9)
            lows, highs = self.bounds(hall, 30)
            told = self.number(hall, highs[0] - lows[0], 29)
            self.assertTrue(told is None or highs[0] == lows[0])

    def test_no_more_rounds_than_are_needed(self):
        # Forty rounds of this hall have numbers of many thousand figures; two are soon done.
        hall = wide_hall(Numbers(224))
        first, second = model_distances(hall, 2)
        self.assertLess(second, first)
        self.assertEqual(self.number(hall, first, 40), 1)
        self.assertEqual(self.number(hall, second, 40), 2)
        self.assertIsNone(self.number(hall, Fraction(-1, LONG), 40))

    def test_gaps_that_are_no_fractions(self):
        for text in ["share 0", "share 1/2\nroom x", THREE]:
            for gap in NO_GAPS:
                for most in [1, 40]:
                    self.is_refused(lambda: rounds_to(read(text), gap, most))

    def test_mosts_that_are_no_numbers_of_rounds(self):
        for gap in [NOUGHT, ONE, (-1, 2), (LONG, 1)]:
            self.refuses_numbers(lambda hall, thing: rounds_to(hall, gap, thing))

    def test_the_gap_stands_ahead_of_the_most(self):
        hall = read(THREE)
        gap_words = str(self.is_refused(lambda: rounds_to(hall, None, 1)))
        most_words = str(self.is_refused(lambda: rounds_to(hall, ONE, 0)))
        self.assertNotEqual(gap_words, most_words)
        for gap, most in itertools.product(NO_GAPS, [0, 41, True, None, "1", Stubborn()]):
            self.assertEqual(str(self.is_refused(lambda: rounds_to(hall, gap, most))), gap_words)

    def test_what_is_refused_is_left_as_it_is(self):
        gap = [1, [2]]
        most = [[3]]
        self.is_refused(lambda: rounds_to(read(THREE), gap, 1))
        self.is_refused(lambda: rounds_to(read(THREE), ONE, most))
        self.assertEqual((gap, most), ([1, [2]], [[3]]))

    def test_arguments_by_their_names(self):
        self.assertEqual(rounds_to(hall=Hall(HALF, [("x", [])]), gap=ONE, most=1), 1)


if __name__ == "__main__":
    unittest.main()
