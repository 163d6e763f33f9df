"""[2] whole numbers and [5] the greatest common divisor."""

import math
import unittest
from fractions import Fraction

from chancehall.ratios import ratio
from chancehall.wholes import divisor, is_whole

SIXTY = 10 ** 59 + 9


# A thing with a mind of its own about being compared, to be told apart all the same.
class Stubborn:
    def __eq__(self, other):
        raise RuntimeError("not to be compared")

    def __bool__(self):
        raise RuntimeError("not to be asked for its truth")


class IsWhole(unittest.TestCase):
    def test_whole_numbers(self):
        for number in [0, 1, -1, 2, -2, 7, -100, SIXTY, -SIXTY, 10 ** 4000, -(10 ** 4000)]:
            self.assertIs(is_whole(number), True)

    def test_truths_are_none(self):
        self.assertIs(is_whole(True), False)
        self.assertIs(is_whole(False), False)

    def test_things_of_other_kinds_are_none(self):
        things = [None, "", "0", "12", "-1", (), (1,), (1, 2), [], [3], {}, {1: 2}, set(), b"1",
                  0.0, 1.0, 1.5, 2j, float("inf"), float("nan"), Fraction(3), int, is_whole,
                  object(), Stubborn(), range(3)]
        for thing in things:
            self.assertIs(is_whole(thing), False)

    def test_a_fraction_is_none(self):
        self.assertIs(is_whole(ratio(4, 1)), False)
        self.assertIs(is_whole(ratio(0, 5)), False)


class Divisor(unittest.TestCase):
    def check(self, one, other, wanted):
        for left in (one, -one):
            for right in (other, -other):
                self.assertEqual(divisor(left, right), wanted)
                self.assertEqual(divisor(right, left), wanted)
                self.assertIs(is_whole(divisor(left, right)), True)

    def test_told_by_hand(self):
        for one, other, wanted in [(12, 18, 6), (1, 1, 1), (1, 9, 1), (8, 9, 1), (35, 21, 7), (2, 2, 2)]:
            self.check(one, other, wanted)

    def test_with_nought(self):
        for number in [1, 2, 6, 97, SIXTY]:
            self.check(number, 0, number)

    def test_nought_and_nought(self):
        self.assertEqual(divisor(0, 0), 0)

    def test_one_a_multiple_of_the_other(self):
        for number in [1, 2, 5, 30, 10 ** 40 + 1]:
            for often in [1, 2, 7, 10 ** 19]:
                self.check(number, number * often, number)

    def test_every_pair_of_small_numbers(self):
        for one in range(-40, 41):
            for other in range(-40, 41):
                self.assertEqual(divisor(one, other), math.gcd(one, other), (one, other))

    def test_greatest_by_its_words(self):
        for one in range(1, 25):
            for other in range(1, 25):
                common = [k for k in range(1, 25) if one % k == 0 and other % k == 0]
                self.assertEqual(divisor(one, other), max(common))

    def test_sixty_figures_with_a_large_common_divisor(self):
        common = 10 ** 40 + 121
        one = common * (10 ** 19 + 51)
        other = common * (3 * 10 ** 18 + 7)
        self.assertEqual(len(str(one)), 60)
        self.check(one, other, common * math.gcd(10 ** 19 + 51, 3 * 10 ** 18 + 7))
        self.check(10 ** 59, 2 ** 190, 2 ** 59)

    def test_the_longest_way_down(self):
        # Neighbours of this row take the most divisions for their size.
        one = 1
        other = 1
        while other < 10 ** 59:
            one, other = other, one + other
        self.check(one, other, 1)
        self.check(6 * one, 6 * other, 6)

    def test_four_thousand_figures(self):
        common = 7 ** 2000
        self.check(common * 2 ** 500, common * 3 ** 500, common)


if __name__ == "__main__":
    unittest.main()
