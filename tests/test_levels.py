"""[8] lists of fractions: one bottom, the total, the greatest and the least one; [2] and [3] over them."""

import itertools
import math
import unittest
from fractions import Fraction

from chancehall.levels import greatest, least, level, total
from chancehall.ratios import is_ratio
from chancehall.wholes import is_whole

LONG = 10 ** 59 + 7
OTHER_LONG = 9 * 10 ** 59 + 4

LISTS = [
    [],
    [(0, 1)],
    [(5, 1)],
    [(-2, 3)],
    [(1, 2), (1, 3)],
    [(1, 3), (1, 2)],
    [(1, 2), (1, 2), (1, 2)],
    [(1, 4), (1, 6)],
    [(5, 12), (-7, 18), (0, 1), (3, 8), (-2, 1)],
    [(-1, 2), (-1, 3), (-3, 4)],
    [(1, 2), (-1, 2)],
    [(0, 1), (0, 1)],
    [(1, 6), (1, 10), (1, 15)],
    [(1, 2), (1, 4), (1, 8), (1, 16), (1, 32)],
    [(LONG, 1), (-LONG, 1)],
    [(1, LONG), (1, OTHER_LONG), (-3, 7)],
    [(LONG, 10 ** 59), (-LONG, 2 ** 190), (1, 5 ** 80)],
]


def of_python(one):
    return Fraction(one[0], one[1])


def of_fraction(one):
    return (one.numerator, one.denominator)


def small_lists():
    some = [(0, 1), (1, 1), (-1, 2), (2, 3), (3, 4), (-5, 6)]
    for many in range(4):
        for row in itertools.product(some, repeat=many):
            yield list(row)


class Level(unittest.TestCase):
    def is_level(self, fractions):
        told = level(fractions)
        self.assertIs(type(told), tuple)
        self.assertEqual(len(told), 2)
        tops, bottom = told
        self.assertIs(type(tops), list)
        self.assertTrue(is_whole(bottom))
        self.assertEqual(bottom, math.lcm(*[one[1] for one in fractions]))
        self.assertEqual(len(tops), len(fractions))
        for top, one in zip(tops, fractions):
            self.assertTrue(is_whole(top))
            self.assertEqual(Fraction(top, bottom), of_python(one))

    def test_told_by_hand(self):
        for fractions, wanted in [
            ([], ([], 1)),
            ([(0, 1)], ([0], 1)),
            ([(7, 1)], ([7], 1)),
            ([(-2, 3)], ([-2], 3)),
            ([(1, 2), (1, 3)], ([3, 2], 6)),
            ([(1, 3), (1, 2)], ([2, 3], 6)),
            ([(1, 4), (1, 6)], ([3, 2], 12)),
            ([(1, 6), (1, 4), (5, 12)], ([2, 3, 5], 12)),
            ([(1, 2), (1, 2)], ([1, 1], 2)),
            ([(-1, 2), (0, 1), (3, 1)], ([-1, 0, 6], 2)),
            ([(1, 2), (1, 4), (1, 8)], ([4, 2, 1], 8)),
            ([(1, 8), (1, 2)], ([1, 4], 8)),
            ([(1, 6), (1, 10), (1, 15)], ([5, 3, 2], 30)),
            ([(0, 1), (0, 1)], ([0, 0], 1)),
        ]:
            self.assertEqual(level(fractions), wanted)

    def test_all_lists(self):
        for fractions in LISTS:
            self.is_level(fractions)
        for fractions in small_lists():
            self.is_level(fractions)

    def test_the_bottom_is_the_least_by_its_words(self):
        for one in range(1, 13):
            for other in range(1, 13):
                fractions = [(1, one), (1, other)]
                wanted = [k for k in range(1, 145) if k % one == 0 and k % other == 0][0]
                self.assertEqual(level(fractions)[1], wanted)

    def test_two_hundred_fractions(self):
        self.is_level([of_fraction(Fraction(top, 1 + top % 97)) for top in range(-100, 100)])

    def test_bottoms_that_come_to_thousands_of_figures(self):
        fractions = [(1, 10 ** 59 + turn) for turn in range(66)]
        self.is_level(fractions)
        self.assertGreater(len(str(level(fractions)[1])), 3000)


class Total(unittest.TestCase):
    def is_total(self, fractions):
        told = total(fractions)
        self.assertTrue(is_ratio(told))
        self.assertEqual(told, of_fraction(sum([of_python(one) for one in fractions], Fraction(0))))

    def test_told_by_hand(self):
        for fractions, wanted in [
            ([], (0, 1)),
            ([(0, 1)], (0, 1)),
            ([(-3, 4)], (-3, 4)),
            ([(1, 2), (1, 3)], (5, 6)),
            ([(1, 6), (1, 3)], (1, 2)),
            ([(1, 2), (1, 2)], (1, 1)),
            ([(1, 2), (-1, 2)], (0, 1)),
            ([(1, 3), (1, 3), (1, 3)], (1, 1)),
            ([(-1, 6), (-1, 3), (0, 1)], (-1, 2)),
        ]:
            self.assertEqual(total(fractions), wanted)

    def test_all_lists(self):
        for fractions in LISTS:
            self.is_total(fractions)
        for fractions in small_lists():
            self.is_total(fractions)

    def test_many_figures(self):
        self.is_total([(1, 10 ** 59 + turn) for turn in range(66)])


class GreatestAndLeast(unittest.TestCase):
    def test_none_of_none(self):
        self.assertIsNone(greatest([]))
        self.assertIsNone(least([]))

    def test_told_by_hand(self):
        for fractions, low, high in [
            ([(0, 1)], (0, 1), (0, 1)),
            ([(-1, 2)], (-1, 2), (-1, 2)),
            ([(1, 2), (1, 3)], (1, 3), (1, 2)),
            ([(1, 3), (1, 2)], (1, 3), (1, 2)),
            ([(-1, 2), (-1, 3)], (-1, 2), (-1, 3)),
            ([(2, 3), (3, 4), (5, 8)], (5, 8), (3, 4)),
            ([(5, 6), (5, 6)], (5, 6), (5, 6)),
            ([(-9, 1), (0, 1), (1, 9)], (-9, 1), (1, 9)),
            ([(0, 1), (-1, 9)], (-1, 9), (0, 1)),
            ([(1, 9), (0, 1)], (0, 1), (1, 9)),
            ([(LONG - 1, LONG), (LONG, LONG + 1)], (LONG - 1, LONG), (LONG, LONG + 1)),
        ]:
            self.assertEqual(least(fractions), low)
            self.assertEqual(greatest(fractions), high)

    def test_all_lists(self):
        for fractions in [row for row in LISTS + list(small_lists()) if row]:
            self.assertEqual(greatest(fractions), of_fraction(max([of_python(one) for one in fractions])))
            self.assertEqual(least(fractions), of_fraction(min([of_python(one) for one in fractions])))


class Lists(unittest.TestCase):
    def test_the_list_handed_in_stays(self):
        for fractions in LISTS:
            kept = list(fractions)
            for ask in [level, total, greatest, least]:
                ask(fractions)
                self.assertEqual(fractions, kept)

    def test_what_was_told_stays_when_the_list_handed_in_is_changed(self):
        fractions = [(1, 2), (-1, 3)]
        told = level(fractions)
        fractions[0] = (5, 7)
        fractions.append((1, 11))
        self.assertEqual(told, ([3, -2], 6))
        fractions.clear()
        self.assertEqual(told, ([3, -2], 6))

    def test_the_list_handed_in_stays_when_what_was_told_is_changed(self):
        for fractions in [[(1, 2), (-1, 3)], [(4, 1), (5, 1)], []]:
            kept = list(fractions)
            wanted = (list(level(fractions)[0]), level(fractions)[1])
            told = level(fractions)
            told[0].append(9)
            told[0].reverse()
            self.assertEqual(fractions, kept)
            self.assertEqual(level(fractions), wanted)

    def test_a_list_changed_later_is_asked_anew(self):
        fractions = []
        self.assertEqual(level(fractions), ([], 1))
        fractions.append((1, 2))
        self.assertEqual(level(fractions), ([1], 2))
        self.assertEqual(total(fractions), (1, 2))
        fractions.append((2, 1))
        self.assertEqual((greatest(fractions), least(fractions)), ((2, 1), (1, 2)))


if __name__ == "__main__":
    unittest.main()
