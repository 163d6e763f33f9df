"""[17] rows and their rights solved, with the papers of each answer; [2] over them."""

import copy
import itertools
import unittest
from fractions import Fraction

from chancehall.ratios import is_ratio
from chancehall.solving import only_answer, solved

NOUGHT = (0, 1)
ONE = (1, 1)
LONG = 10 ** 59 + 7


class Numbers:
    """Numbers that are always the same ones, without any order that meets the eye."""

    def __init__(self, seed):
        self.state = seed

    def below(self, many):
        found = 0
        while found < many:
            self.state = (self.state * 6364136223846793005 + 1442695040888963407) % 2 ** 64
            found = (found << 31) + (self.state >> 33) + 1
        return found % many

    def fraction(self, large):
        return Fraction(self.below(2 * large + 1) - large, 1 + self.below(large))


def pair(number):
    return (Fraction(number).numerator, Fraction(number).denominator)


def pairs(rows):
    return [[pair(number) for number in row] for row in rows]


def fractions(numbers):
    return [Fraction(*number) for number in numbers]


def product(numbers, others):
    return sum((one * other for one, other in zip(numbers, others)), Fraction(0))


def rank_of(rows):
    """How many rows are left where each is cleared by those ahead, as a model reckons it."""
    left = [list(row) for row in rows]
    many = 0
    for column in range(len(rows[0]) if rows else 0):
        found = [row for row in left if row[column] != 0]
        if found:
            first = found[0]
            left.remove(first)
            left = [[a - b * row[column] / first[column] for a, b in zip(row, first)] for row in left]
            many += 1
    return many


def modelled(rows, rights):
    """Which of the three answers it is, by ranks alone."""
    joined = [list(row) + [right] for row, right in zip(rows, rights)]
    if rank_of(joined) > rank_of(rows):
        return "none"
    wide = len(rows[0]) if rows else 0
    return "one" if rank_of(rows) == wide else "many"


class Solving(unittest.TestCase):
    def is_list(self, told, many):
        self.assertIs(type(told), list)
        self.assertEqual(len(told), many)
        for number in told:
            self.assertTrue(is_ratio(number), number)
        return fractions(told)

    def is_answer(self, told, rows, rights):
        answer = self.is_list(told, len(rows[0]) if rows else 0)
        self.assertEqual([product(row, answer) for row in rows], rights)

    def are_papers(self, left, rows, wide):
        self.assertIs(type(left), list)
        self.assertEqual(len(left), wide)
        for place, often in enumerate(left):
            taken = self.is_list(often, len(rows))
            sums = [product(taken, [row[column] for row in rows]) for column in range(wide)]
            self.assertEqual(sums, [1 if column == place else 0 for column in range(wide)])

    def is_blank(self, told, rows, wide):
        blank = self.is_list(told, wide)
        self.assertTrue(any(blank))
        self.assertEqual([product(row, blank) for row in rows], [0] * len(rows))

    def is_odd(self, told, rows, rights, wide):
        often = self.is_list(told, len(rows))
        self.assertEqual([product(often, [row[column] for row in rows]) for column in range(wide)], [0] * wide)
        self.assertEqual(product(often, rights), 1)

    def is_solved(self, rows, rights, wanted):
        """Checks the answer with its papers; rows and rights are told as Python's own fractions."""
        handed = pairs(rows)
        handed_rights = [pair(right) for right in rights]
        told = solved(handed, handed_rights)
        only = only_answer(handed, handed_rights)
        self.assertEqual((handed, handed_rights), (pairs(rows), [pair(right) for right in rights]))
        self.assertIs(type(told), tuple)
        self.assertEqual((told[0], len(told)), (wanted, 2 if wanted == "none" else 3))
        wide = len(rows[0]) if rows else 0
        if wanted == "one":
            self.is_answer(told[1], rows, rights)
            self.are_papers(told[2], rows, wide)
            self.assertEqual(only, told[1])
            self.is_list(only, wide)
        elif wanted == "many":
            self.is_answer(told[1], rows, rights)
            self.is_blank(told[2], rows, wide)
            self.assertIsNone(only)
        else:
            self.is_odd(told[1], rows, rights, wide)
            self.assertIsNone(only)
        return told


class Solved(Solving):
    def test_no_rows(self):
        self.assertEqual(solved([], []), ("one", [], []))
        self.assertEqual(only_answer([], []), [])

    def test_arguments_by_their_names(self):
        self.assertEqual(solved(rows=[[(2, 1)]], rights=[(3, 1)]), ("one", [(3, 2)], [[(1, 2)]]))
        self.assertEqual(only_answer(rows=[[(2, 1)]], rights=[(3, 1)]), [(3, 2)])

    def test_one_number(self):
        self.assertEqual(self.is_solved([[2]], [3], "one")[1], [(3, 2)])
        self.assertEqual(self.is_solved([[Fraction(-2, 3)]], [0], "one")[1], [NOUGHT])
        self.is_solved([[0]], [0], "many")
        self.assertEqual(self.is_solved([[0]], [5], "none")[1], [(1, 5)])
        self.assertEqual(self.is_solved([[0]], [Fraction(-5, 3)], "none")[1], [(-3, 5)])

    def test_one_answer(self):
        self.assertEqual(self.is_solved([[1, 1], [1, -1]], [5, 1], "one")[1], [(3, 1), (2, 1)])
        self.assertEqual(self.is_solved([[0, 1], [1, 0]], [5, 1], "one")[1], [ONE, (5, 1)])
        self.assertEqual(self.is_solved([[2, 1, 0], [0, 3, 1], [1, 0, 4]], [0, 0, 0], "one")[1], [NOUGHT] * 3)
        self.assertEqual(self.is_solved([[0, 0, 2], [0, 3, 0], [5, 0, 0]], [1, 1, 1], "one")[1],
                         [(1, 5), (1, 3), (1, 2)])

    def test_several_answers(self):
        self.is_solved([[1, 2]], [3], "many")
        self.is_solved([[0, 2]], [3], "many")
        self.is_solved([[2, 0]], [3], "many")
        self.is_solved([[1, 2], [2, 4]], [3, 6], "many")
        self.is_solved([[0, 0], [0, 0]], [0, 0], "many")
        self.is_solved([[0, 1, 2, 0], [0, 2, 4, 1]], [1, 3], "many")
        self.is_solved([[1, 0, 5, 7], [0, 1, 6, 8]], [0, 0], "many")

    def test_no_answer(self):
        self.is_solved([[1, 2], [2, 4]], [3, 7], "none")
        self.is_solved([[0, 0]], [1], "none")
        self.is_solved([[1, 1], [1, -1], [1, 0]], [5, 1, 4], "none")
        self.is_solved([[1], [1]], [1, 2], "none")
        self.is_solved([[1, 2, 3], [4, 5, 6], [7, 8, 9]], [1, 1, 2], "none")
        # One row that fits none, with a column that could be anything.
        self.is_solved([[1, 0, 0], [1, 0, 0]], [1, 2], "none")

    def test_more_rows_than_columns(self):
        self.is_solved([[1], [2], [3]], [2, 4, 6], "one")
        self.is_solved([[1], [2], [3]], [2, 4, 7], "none")
        self.is_solved([[0], [0], [0]], [0, 0, 0], "many")
        self.is_solved([[1, 1], [1, -1], [3, 1], [0, 0]], [5, 1, 11, 0], "one")
        self.is_solved([[1, 1], [1, -1], [3, 1], [0, 0]], [5, 1, 11, 1], "none")
        self.is_solved([[0, 1], [0, 2], [0, 3]], [1, 2, 3], "many")
        self.is_solved([[0], [3]], [0, 5], "one")

    def test_rows_that_say_the_same_twice(self):
        self.is_solved([[1, 1], [1, 1], [1, -1], [1, -1]], [5, 5, 1, 1], "one")
        self.is_solved([[1, 1], [1, 1], [2, 2]], [5, 5, 10], "many")
        self.is_solved([[1, 1], [1, 1], [1, -1]], [5, 6, 1], "none")

    def test_every_small_pattern(self):
        for many, wide in [(1, 1), (1, 2), (2, 1), (2, 2), (3, 1), (1, 3)]:
            for filled in itertools.product([0, 1, -2], repeat=many * wide + many):
                rows = [list(filled[row * wide:row * wide + wide]) for row in range(many)]
                rows = [[Fraction(number) for number in row] for row in rows]
                rights = [Fraction(right) for right in filled[many * wide:]]
                self.is_solved(rows, rights, modelled(rows, rights))

    def test_many_rows_by_ranks(self):
        numbers = Numbers(22)
        seen = {"one": 0, "many": 0, "none": 0}
        for turn in range(400):
            many = 1 + numbers.below(5)
            wide = 1 + numbers.below(5)
            rows = [[numbers.fraction(5) if numbers.below(3) else Fraction(0) for column in range(wide)]
                    for row in range(many)]
            if many > 2 and numbers.below(2):
                rows[-1] = [2 * one - other for one, other in zip(rows[0], rows[1])]
            rights = [numbers.fraction(9) for row in rows]
            if numbers.below(2):
                some = [numbers.fraction(9) for column in range(wide)]
                rights = [product(row, some) for row in rows]
            wanted = modelled(rows, rights)
            seen[wanted] += 1
            self.is_solved(rows, rights, wanted)
        self.assertGreater(min(seen.values()), 40)

    def test_as_many_as_they_come(self):
        numbers = Numbers(23)
        rows = [[numbers.fraction(100) for column in range(12)] for row in range(12)]
        rights = [numbers.fraction(100) for row in rows]
        self.is_solved(rows, rights, "one")
        wide = [[numbers.fraction(100) for column in range(14)] for row in range(12)]
        self.is_solved(wide, rights, "many")
        tall = [row[:3] for row in rows]
        self.is_solved(tall, rights, "none")
        self.is_solved(tall, [product(row, [1, 2, 3]) for row in tall], "one")
        rows[11] = [one + other for one, other in zip(rows[0], rows[5])]
        self.is_solved(rows, rights, "none")
        rights[11] = rights[0] + rights[5]
        self.is_solved(rows, rights, "many")

    def test_numbers_of_many_figures(self):
        numbers = Numbers(24)
        large = 10 ** 60 - 1
        rows = [[numbers.fraction(large) for column in range(4)] for row in range(4)]
        rights = [numbers.fraction(large) for row in rows]
        self.is_solved(rows, rights, "one")
        self.is_solved(rows[:3], rights[:3], "many")
        rows[3] = [one + other for one, other in zip(rows[0], rows[1])]
        self.is_solved(rows, rights, "none")
        rights[3] = rights[0] + rights[1]
        self.is_solved(rows, rights, "many")

    def test_what_is_only_near(self):
        rows = [[Fraction(1), Fraction(LONG, LONG + 1)], [Fraction(1), Fraction(LONG + 1, LONG + 2)]]
        self.is_solved(rows, [Fraction(1), Fraction(1)], "one")
        self.is_solved([rows[0], rows[0]], [Fraction(1), Fraction(LONG, LONG + 1)], "none")
        self.is_solved([rows[0], rows[0]], [Fraction(1), Fraction(1)], "many")


ROWS = pairs([[1, 2], [3, Fraction(5, 2)]])
# Rows and rights of each of the three answers.
ASKED = [
    (ROWS, [ONE, (2, 1)]), (pairs([[1, 0], [0, 1]]), [ONE, NOUGHT]), ([ROWS[0], ROWS[0]], [ONE, ONE]),
    ([ROWS[0], ROWS[0]], [ONE, NOUGHT]), (pairs([[0, 0], [0, 0]]), [NOUGHT, NOUGHT]), (pairs([[1], [1]]), [ONE, ONE]),
]


def changed(told):
    """All lists of an answer, emptied."""
    for part in told[1:]:
        for thing in part:
            if isinstance(thing, list):
                thing.clear()
        part.clear()


class Lists(unittest.TestCase):
    def test_what_was_handed_in_stays(self):
        for rows, rights in ASKED:
            handed = copy.deepcopy((rows, rights))
            told = solved(handed[0], handed[1])
            only = only_answer(handed[0], handed[1])
            self.assertEqual(handed, (rows, rights))
            changed(told)
            if only is not None:
                only.clear()
            self.assertEqual(handed, (rows, rights))

    def test_what_was_told_stays_when_what_was_handed_in_is_changed(self):
        for rows, rights in ASKED:
            handed = copy.deepcopy((rows, rights))
            told = solved(handed[0], handed[1])
            only = only_answer(handed[0], handed[1])
            kept = copy.deepcopy((told, only))
            for row in handed[0]:
                row[0] = (9, 1)
                row.append(ONE)
            handed[0].pop()
            handed[1].clear()
            self.assertEqual((told, only), kept)
            self.assertEqual((solved(rows, rights), only_answer(rows, rights)), kept)

    def test_what_was_told_stays_when_other_answers_are_changed(self):
        for rows, rights in ASKED:
            told = solved(rows, rights)
            kept = copy.deepcopy(told)
            changed(solved(rows, rights))
            self.assertEqual(told, kept)
            self.assertEqual(solved(rows, rights), kept)

    def test_lists_of_one_answer_are_apart(self):
        for rows, rights in ASKED:
            kept = copy.deepcopy(solved(rows, rights))
            for part in range(1, len(kept)):
                told = solved(rows, rights)
                changed((told[0], told[part]))
                for other in range(1, len(kept)):
                    if other != part:
                        self.assertEqual(told[other], kept[other])
        left = solved(ROWS, [ONE, ONE])[2]
        row = copy.deepcopy(left[1])
        left[0].clear()
        self.assertEqual(left[1], row)

    def test_answers_without_columns_are_lists_of_their_own(self):
        told = solved([], [])
        told[1].append(ONE)
        self.assertEqual(told[2], [])
        told[2].append([])
        only_answer([], []).append(ONE)
        self.assertEqual((solved([], []), only_answer([], [])), (("one", [], []), []))


if __name__ == "__main__":
    unittest.main()
