"""[6] fractions and [7] their parting; [2] what a fraction is; [3] how large numbers are."""

import copy
import unittest
from fractions import Fraction

from chancehall.errors import NoNumber
from chancehall.ratios import is_ratio, minus, over, parted, plus, ratio, times, under
from chancehall.wholes import is_whole

LONG = 10 ** 59 + 7
OTHER_LONG = 9 * 10 ** 59 + 4

# Fractions written out by hand, so that the tests don't rest on ratio.
FRACTIONS = [
    (0, 1), (1, 1), (-1, 1), (2, 1), (-3, 1), (1, 2), (-1, 2), (1, 3), (2, 3), (-2, 3), (5, 6),
    (-7, 4), (7, 4), (9, 10), (-11, 15), (100, 7), (-6, 35), (10 ** 59, 3), (-(10 ** 59) - 1, 2 ** 190),
    (1, 10 ** 59), (-1, 10 ** 59 + 1),
]

NO_WHOLES = [True, False, None, "", "1", "1/2", [], [1], [1, 2], (), (1,), (1, 2), (0, 1), (1, 2, 3),
             {}, {1: 2}, 1.0, 0.5, b"1", 1j, Fraction(1), object(), int]


def of_python(one):
    return Fraction(one[0], one[1])


def of_fraction(one):
    return (one.numerator, one.denominator)


class WithFractions(unittest.TestCase):
    def is_told(self, thing, wanted):
        """The fraction as it is wanted, and of whole numbers (1 == True, but True is none)."""
        self.assertEqual(thing, wanted)
        self.assertIs(type(thing), tuple)
        self.assertTrue(is_whole(thing[0]) and is_whole(thing[1]))

    def for_pairs(self, function, of_pair):
        for one in FRACTIONS:
            for other in FRACTIONS:
                wanted = of_fraction(of_pair(of_python(one), of_python(other)))
                self.is_told(function(one, other), wanted)


class Ratio(WithFractions):
    def test_told_by_hand(self):
        for top, bottom, wanted in [
            (1, 2, (1, 2)), (3, 1, (3, 1)), (1, 1, (1, 1)), (-1, 3, (-1, 3)),
            (2, 4, (1, 2)), (12, 18, (2, 3)), (-12, 18, (-2, 3)), (18, 6, (3, 1)), (-18, 6, (-3, 1)),
            (1, -2, (-1, 2)), (-1, -2, (1, 2)), (4, -6, (-2, 3)), (-4, -6, (2, 3)), (5, -1, (-5, 1)),
            (0, 1, (0, 1)), (0, 7, (0, 1)), (0, -1, (0, 1)), (0, -12, (0, 1)),
        ]:
            self.is_told(ratio(top, bottom), wanted)

    def test_every_pair_of_small_numbers(self):
        for top in range(-30, 31):
            for bottom in list(range(-30, 0)) + list(range(1, 31)):
                self.is_told(ratio(top, bottom), of_fraction(Fraction(top, bottom)))

    def test_many_figures(self):
        common = 10 ** 30 + 57
        self.is_told(ratio(common * 3, common * -7), (-3, 7))
        for top in [LONG, -LONG, OTHER_LONG]:
            for bottom in [LONG, -LONG, OTHER_LONG, 2, -3]:
                self.is_told(ratio(top, bottom), of_fraction(Fraction(top, bottom)))

    def test_a_bottom_of_nought_is_refused(self):
        for top in [0, 1, -1, 12, LONG]:
            with self.assertRaises(NoNumber):
                ratio(top, 0)

    def test_things_of_any_kind_are_refused(self):
        for thing in NO_WHOLES:
            for top, bottom in [(thing, 1), (thing, 3), (thing, 0), (1, thing), (0, thing), (thing, thing)]:
                with self.assertRaises(NoNumber):
                    ratio(top, bottom)
            for other in NO_WHOLES:
                with self.assertRaises(NoNumber):
                    ratio(thing, other)

    def test_a_fraction_is_no_part_of_one(self):
        for top, bottom in [((2, 1), 3), (3, (2, 1)), ((2, 1), (3, 1))]:
            with self.assertRaises(NoNumber):
                ratio(top, bottom)

    def test_what_is_refused_is_not_changed(self):
        things = [[1, 2], {1: [2]}]
        kept = copy.deepcopy(things)
        for thing in things:
            with self.assertRaises(NoNumber):
                ratio(thing, thing)
        self.assertEqual(things, kept)


class IsRatio(unittest.TestCase):
    def test_fractions(self):
        for one in FRACTIONS + [(LONG, 1), (-LONG, 1), (10 ** 4000, 3), (-1, 10 ** 4000)]:
            self.assertIs(is_ratio(one), True)

    def test_every_small_pair(self):
        for top in range(-20, 21):
            for bottom in range(-20, 21):
                wanted = bottom > 0 and of_fraction(Fraction(top, bottom)) == (top, bottom)
                self.assertIs(is_ratio((top, bottom)), wanted, (top, bottom))

    def test_terms_that_are_not_lowest(self):
        for thing in [(2, 4), (-2, 4), (3, 3), (0, 2), (0, 60), (10 ** 59, 10 ** 58), (LONG * 2, LONG * 4)]:
            self.assertIs(is_ratio(thing), False)

    def test_a_bottom_of_nought_or_below(self):
        for thing in [(1, 0), (0, 0), (-1, 0), (1, -1), (1, -2), (-1, -2), (0, -1), (3, -LONG)]:
            self.assertIs(is_ratio(thing), False)

    def test_as_many_things_as_are_wanted(self):
        for thing in [(), (1,), (1, 2, 3), (1, 1, 1), (0, 1, None)]:
            self.assertIs(is_ratio(thing), False)

    def test_lists_are_none(self):
        for thing in [[], [1], [1, 2], [0, 1], [1, 2, 3], [(1, 2)], [(1, 2), (1, 3)]]:
            kept = copy.deepcopy(thing)
            self.assertIs(is_ratio(thing), False)
            self.assertEqual(thing, kept)

    def test_truths_in_the_tuple(self):
        for thing in [(True, 1), (False, 1), (1, True), (0, True), (3, True), (True, True), (True, 2), (1, False)]:
            self.assertIs(is_ratio(thing), False)

    def test_things_of_other_kinds_in_the_tuple(self):
        for thing in NO_WHOLES:
            for pair in [(thing, 1), (thing, 2), (1, thing), (0, thing), (thing, thing)]:
                self.assertIs(is_ratio(pair), False)

    def test_things_of_other_kinds(self):
        things = [None, True, False, 0, 1, -4, LONG, "", "12", "1/2", "ab", {}, {0: 1, 1: 2}, {1, 2}, b"12",
                  0.5, 1j, Fraction(1, 2), object(), int, tuple, range(1, 3)]
        for thing in things:
            self.assertIs(is_ratio(thing), False)


class Reckoning(WithFractions):
    def test_sums_by_hand(self):
        self.is_told(plus((1, 2), (1, 3)), (5, 6))
        self.is_told(plus((1, 6), (1, 3)), (1, 2))
        self.is_told(plus((1, 2), (-1, 2)), (0, 1))
        self.is_told(plus((0, 1), (-3, 4)), (-3, 4))

    def test_differences_by_hand(self):
        self.is_told(minus((1, 2), (1, 3)), (1, 6))
        self.is_told(minus((1, 3), (1, 2)), (-1, 6))
        self.is_told(minus((5, 6), (5, 6)), (0, 1))
        self.is_told(minus((0, 1), (-3, 4)), (3, 4))

    def test_products_by_hand(self):
        self.is_told(times((2, 3), (3, 4)), (1, 2))
        self.is_told(times((-2, 3), (3, 2)), (-1, 1))
        self.is_told(times((-2, 3), (-1, 2)), (1, 3))
        self.is_told(times((0, 1), (-5, 7)), (0, 1))

    def test_quotients_by_hand(self):
        self.is_told(over((1, 2), (3, 4)), (2, 3))
        self.is_told(over((3, 4), (1, 2)), (3, 2))
        self.is_told(over((1, 2), (-1, 2)), (-1, 1))
        self.is_told(over((-1, 2), (-3, 1)), (1, 6))
        self.is_told(over((0, 1), (-3, 4)), (0, 1))

    def test_sums_of_all_pairs(self):
        self.for_pairs(plus, lambda one, other: one + other)

    def test_differences_of_all_pairs(self):
        self.for_pairs(minus, lambda one, other: one - other)

    def test_products_of_all_pairs(self):
        self.for_pairs(times, lambda one, other: one * other)

    def test_quotients_of_all_pairs(self):
        for one in FRACTIONS:
            for other in FRACTIONS:
                if other != (0, 1):
                    wanted = of_fraction(of_python(one) / of_python(other))
                    self.is_told(over(one, other), wanted)

    def test_a_quotient_by_nought_is_refused(self):
        for one in FRACTIONS:
            with self.assertRaises(NoNumber):
                over(one, (0, 1))

    def test_what_was_told_is_taken_again(self):
        one = (1, 3)
        of_one = Fraction(1, 3)
        for turn in range(30):
            other = (LONG + turn, OTHER_LONG - 5 * turn)
            of_other = Fraction(LONG + turn, OTHER_LONG - 5 * turn)
            one = plus(times(one, ratio(other[0], other[1])), (-1, 7))
            of_one = of_one * of_other - Fraction(1, 7)
            self.is_told(one, of_fraction(of_one))
            self.assertIs(is_ratio(one), True)
        self.assertGreater(len(str(one[1])), 1700)


class Under(unittest.TestCase):
    def test_told_by_hand(self):
        for one, other in [((1, 3), (1, 2)), ((-1, 2), (-1, 3)), ((-1, 9), (0, 1)), ((0, 1), (1, 9)),
                           ((-5, 1), (1, 5)), ((3, 4), (7, 9)), ((9, 10), (1, 1))]:
            self.assertIs(under(one, other), True)
            self.assertIs(under(other, one), False)

    def test_equal_ones(self):
        for one in FRACTIONS:
            self.assertIs(under(one, one), False)

    def test_all_pairs(self):
        for one in FRACTIONS:
            for other in FRACTIONS:
                self.assertIs(under(one, other), of_python(one) < of_python(other), (one, other))

    def test_near_ones_of_many_figures(self):
        self.assertIs(under((LONG - 1, LONG), (LONG, LONG + 1)), True)
        self.assertIs(under((LONG, LONG + 1), (LONG - 1, LONG)), False)


class Parted(WithFractions):
    def test_told_by_hand(self):
        for one, whole, rest in [
            ((7, 3), 2, (1, 3)), ((1, 3), 0, (1, 3)), ((-1, 3), -1, (2, 3)), ((-7, 3), -3, (2, 3)),
            ((0, 1), 0, (0, 1)), ((1, 1), 1, (0, 1)), ((5, 1), 5, (0, 1)), ((-5, 1), -5, (0, 1)),
            ((-1, 10 ** 59), -1, (10 ** 59 - 1, 10 ** 59)),
        ]:
            self.assertEqual(parted(one), (whole, rest))

    def test_the_rest_and_the_sum(self):
        small = [(top, 1) for top in range(-9, 10)]
        small = small + [of_fraction(Fraction(top, bottom)) for top in range(-30, 31) for bottom in range(2, 13)]
        for one in FRACTIONS + small:
            told = parted(one)
            self.assertIs(type(told), tuple)
            self.assertEqual(len(told), 2)
            whole, rest = told
            self.assertTrue(is_whole(whole))
            self.assertTrue(is_ratio(rest))
            self.assertTrue(0 <= of_python(rest) < 1)
            self.assertEqual(whole + of_python(rest), of_python(one))


if __name__ == "__main__":
    unittest.main()
