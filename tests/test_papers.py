"""[15] rows walked by steps, [16] rows reduced in their first columns; [2] over both."""

import copy
import itertools
import unittest
from fractions import Fraction

from chancehall.papers import reduced, walked
from chancehall.ratios import is_ratio
from chancehall.wholes import is_whole

NOUGHT = (0, 1)
ONE = (1, 1)
LONG = 10 ** 59 + 7


class Numbers:
    """Numbers that are always the same ones, without any order that meets the eye."""

    def __init__(self, seed):
        self.state = seed

    def below(self, many):
        found = 0
        while found < many:
            self.state = (self.state * 6364136223846793005 + 1442695040888963407) % 2 ** 64
            found = (found << 31) + (self.state >> 33) + 1
        return found % many

    def fraction(self, large):
        return pair(Fraction(self.below(2 * large + 1) - large, 1 + self.below(large)))


def pair(number):
    return (number.numerator, number.denominator)


def fractions(rows):
    return [[Fraction(*number) for number in row] for row in rows]


def pairs(rows):
    return [[pair(number) for number in row] for row in rows]


def wholes(rows):
    """Rows of fractions from rows of whole numbers."""
    return [[(number, 1) for number in row] for row in rows]


def modelled(rows, steps):
    """The rows that a model walks to."""
    now = fractions(rows)
    for step in steps:
        if step[0] == "swap":
            now[step[1]], now[step[2]] = now[step[2]], now[step[1]]
        elif step[0] == "times":
            now[step[1]] = [number * Fraction(*step[2]) for number in now[step[1]]]
        else:
            now[step[1]] = [number + other * Fraction(*step[3]) for number, other in zip(now[step[1]], now[step[2]])]
    return pairs(now)


THREE = [[(1, 2), (-3, 1), NOUGHT], [(2, 3), (1, 6), (5, 1)], [NOUGHT, (-7, 4), (1, 1)]]
EACH_STEP = [
    ("swap", 0, 2), ("swap", 2, 0), ("swap", 1, 1), ("times", 1, (3, 2)), ("times", 0, (-1, 1)), ("times", 2, ONE),
    ("add", 0, 1, (1, 2)), ("add", 2, 0, (-4, 3)), ("add", 1, 2, NOUGHT), ("add", 1, 0, (-4, 3)),
    ("times", 2, (1, LONG)), ("times", 1, (-LONG, 3)), ("add", 0, 2, (LONG, LONG + 1)),
]


class Walking(unittest.TestCase):
    def are_rows(self, rows, many, wide):
        self.assertIs(type(rows), list)
        self.assertEqual(len(rows), many)
        for row in rows:
            self.assertIs(type(row), list)
            self.assertEqual(len(row), wide)
            for number in row:
                self.assertTrue(is_ratio(number), number)


class Walked(Walking):
    def test_no_rows(self):
        self.assertEqual(walked([], []), [])

    def test_no_steps(self):
        self.assertEqual(walked(THREE, []), THREE)
        self.assertEqual(walked([[NOUGHT]], []), [[NOUGHT]])

    def test_arguments_by_their_names(self):
        self.assertEqual(walked(rows=THREE, steps=[("swap", 0, 1)]), [THREE[1], THREE[0], THREE[2]])

    def test_swap(self):
        self.assertEqual(walked(THREE, [("swap", 0, 1)]), [THREE[1], THREE[0], THREE[2]])
        self.assertEqual(walked(THREE, [("swap", 1, 0)]), [THREE[1], THREE[0], THREE[2]])
        self.assertEqual(walked(THREE, [("swap", 0, 2)]), [THREE[2], THREE[1], THREE[0]])

    def test_a_row_swapped_with_itself(self):
        for row in range(3):
            self.assertEqual(walked(THREE, [("swap", row, row)]), THREE)
        self.assertEqual(walked([[(1, 2)]], [("swap", 0, 0)]), [[(1, 2)]])

    def test_times(self):
        self.assertEqual(walked(THREE, [("times", 1, (-3, 2))]), [THREE[0], [(-1, 1), (-1, 4), (-15, 2)], THREE[2]])
        self.assertEqual(walked(THREE, [("times", 0, ONE)]), THREE)
        self.assertEqual(walked([[(2, 3)]], [("times", 0, (3, 2))]), [[ONE]])

    def test_add(self):
        self.assertEqual(walked(THREE, [("add", 0, 1, (1, 2))]), [[(5, 6), (-35, 12), (5, 2)], THREE[1], THREE[2]])
        self.assertEqual(walked(THREE, [("add", 1, 0, (1, 2))]), [THREE[0], [(11, 12), (-4, 3), (5, 1)], THREE[2]])
        self.assertEqual(walked(THREE, [("add", 2, 0, (-2, 1))]), [THREE[0], THREE[1], [(-1, 1), (17, 4), ONE]])

    def test_add_with_nought(self):
        for row, other in itertools.permutations(range(3), 2):
            self.assertEqual(walked(THREE, [("add", row, other, NOUGHT)]), THREE)

    def test_rows_that_become_noughts(self):
        self.assertEqual(walked(wholes([[1, 2], [2, 4]]), [("add", 1, 0, (-2, 1))]), wholes([[1, 2], [0, 0]]))
        self.assertEqual(walked(wholes([[0, 0], [2, 4]]), [("times", 0, (5, 3)), ("add", 0, 1, (1, 2))]),
                         wholes([[1, 2], [2, 4]]))

    def test_several_steps_in_their_order(self):
        self.assertEqual(walked(wholes([[1], [10]]), [("add", 0, 1, ONE), ("add", 1, 0, ONE)]), wholes([[11], [21]]))
        self.assertEqual(walked(wholes([[1], [10]]), [("add", 1, 0, ONE), ("add", 0, 1, ONE)]), wholes([[12], [11]]))
        self.assertEqual(walked(wholes([[1], [10]]), [("swap", 0, 1), ("times", 0, (3, 1))]), wholes([[30], [1]]))
        self.assertEqual(walked(wholes([[1], [10]]), [("times", 0, (3, 1)), ("swap", 0, 1)]), wholes([[10], [3]]))

    def test_any_three_steps(self):
        for steps in itertools.product(EACH_STEP, repeat=3):
            found = walked(THREE, list(steps))
            self.assertEqual(found, modelled(THREE, steps), steps)
            self.are_rows(found, 3, 3)

    def test_many_steps_over_many_sizes(self):
        numbers = Numbers(15)
        for many, wide in [(1, 1), (1, 5), (2, 1), (2, 3), (4, 4), (5, 2), (12, 14), (14, 20)]:
            rows = [[numbers.fraction(10 ** 6) for column in range(wide)] for row in range(many)]
            steps = []
            for turn in range(40):
                row = numbers.below(many)
                other = numbers.below(many)
                steps.append(("swap", row, other))
                steps.append(("times", other, pair(Fraction(1 + numbers.below(50), -1 - numbers.below(50)))))
                if row != other:
                    steps.append(("add", row, other, numbers.fraction(9)))
            found = walked(rows, steps)
            self.assertEqual(found, modelled(rows, steps))
            self.are_rows(found, many, wide)

    def test_rows_and_steps_stay(self):
        rows = copy.deepcopy(THREE)
        steps = list(EACH_STEP)
        walked(rows, steps)
        self.assertEqual(rows, THREE)
        self.assertEqual(steps, EACH_STEP)

    def test_what_was_told_stays_when_what_was_handed_in_is_changed(self):
        for steps in [[], [("swap", 0, 1)], [("swap", 1, 1)], [("add", 0, 1, NOUGHT)], [("times", 0, ONE)]]:
            rows = copy.deepcopy(THREE)
            asked = list(steps)
            found = walked(rows, asked)
            kept = copy.deepcopy(found)
            for row in rows:
                row[0] = (9, 1)
                row.append(ONE)
            rows.pop()
            asked.clear()
            self.assertEqual(found, kept)
            self.assertEqual(walked(THREE, steps), kept)

    def test_what_was_handed_in_stays_when_what_was_told_is_changed(self):
        for steps in [[], [("swap", 0, 1)], [("swap", 1, 1)], [("add", 0, 1, NOUGHT)], [("times", 0, ONE)]]:
            rows = copy.deepcopy(THREE)
            found = walked(rows, steps)
            for row in found:
                row[0] = (9, 1)
                row.clear()
            found.clear()
            self.assertEqual(rows, THREE)
            self.assertEqual(walked(rows, steps), modelled(THREE, steps))

    def test_rows_told_are_lists_of_their_own(self):
        row = [ONE, (2, 1)]
        found = walked([row, row], [])
        found[0][0] = (9, 1)
        self.assertEqual(found, [[(9, 1), (2, 1)], [ONE, (2, 1)]])
        self.assertEqual(row, [ONE, (2, 1)])


def column_of(rows, column):
    return [row[column] for row in rows]


class Reducing(Walking):
    def is_step(self, step, many):
        self.assertIs(type(step), tuple)
        self.assertEqual(len(step), {"swap": 3, "times": 3, "add": 4}[step[0]])
        places = [step[1]] if step[0] == "times" else [step[1], step[2]]
        for place in places:
            self.assertTrue(is_whole(place) and 0 <= place < many, step)
        if step[0] == "times":
            self.assertTrue(is_ratio(step[2]) and step[2] != NOUGHT, step)
        if step[0] == "add":
            self.assertTrue(is_ratio(step[3]) and step[1] != step[2], step)

    def has_the_form(self, end, wide):
        begins = []
        for row in end:
            filled = [column for column in range(wide) if row[column] != NOUGHT]
            begins.append(filled[0] if filled else None)
        leading = [column for column in begins if column is not None]
        self.assertEqual(begins, leading + [None] * (len(end) - len(leading)))
        self.assertEqual(leading, sorted(set(leading)))
        for row, column in enumerate(leading):
            self.assertEqual(column_of(end, column), [ONE if other == row else NOUGHT for other in range(len(end))])
        return len(leading)

    def is_reduced(self, rows, wide):
        """Checks all that the point tells; the number of rows that begin is given back."""
        kept = copy.deepcopy(rows)
        told = reduced(rows, wide)
        self.assertEqual(rows, kept)
        self.assertIs(type(told), tuple)
        steps, end = told
        self.assertIs(type(steps), list)
        self.assertLessEqual(len(steps), 3 * len(rows) ** 2)
        for step in steps:
            self.is_step(step, len(rows))
        self.are_rows(end, len(rows), len(rows[0]) if rows else 0)
        self.assertEqual(modelled(rows, steps), end)
        self.assertEqual(walked(rows, steps), end)
        return self.has_the_form(end, wide)


class Reduced(Reducing):
    def test_no_rows(self):
        self.assertEqual(reduced([], 0), ([], []))

    def test_arguments_by_their_names(self):
        self.assertEqual(reduced(rows=[[(2, 1)]], wide=1)[1], [[ONE]])

    def test_one_number(self):
        self.assertEqual(self.is_reduced([[NOUGHT]], 1), 0)
        self.assertEqual(self.is_reduced([[NOUGHT]], 0), 0)
        for number in [ONE, (-1, 1), (2, 3), (-2, 3), (LONG, 1), (1, LONG)]:
            self.assertEqual(self.is_reduced([[number]], 1), 1)
            self.assertEqual(reduced([[number]], 1)[1], [[ONE]])
            self.assertEqual(self.is_reduced([[number]], 0), 0)

    def test_no_columns_asked(self):
        for rows in [THREE, [[NOUGHT, ONE]], wholes([[0], [5]])]:
            self.assertEqual(self.is_reduced(rows, 0), 0)

    def test_the_end_of_some_rows(self):
        self.assertEqual(reduced(wholes([[2, 4, 6], [1, 3, 5]]), 2)[1], wholes([[1, 0, -1], [0, 1, 2]]))
        self.assertEqual(reduced(wholes([[0, 0, 3], [0, 2, 4]]), 3)[1], wholes([[0, 1, 0], [0, 0, 1]]))
        self.assertEqual(reduced(wholes([[1, 2, 3], [2, 4, 6]]), 3)[1], wholes([[1, 2, 3], [0, 0, 0]]))
        self.assertEqual(reduced(wholes([[1, 2], [2, 4], [3, 7]]), 2)[1], wholes([[1, 0], [0, 1], [0, 0]]))

    def test_some_columns_and_all(self):
        for rows in [
            THREE, wholes([[0, 1, 2, 3], [0, 2, 4, 7], [0, 0, 0, 1]]), wholes([[1, 1, 1], [1, 1, 2], [1, 1, 3]]),
            wholes([[0, 0, 1], [0, 1, 0], [1, 0, 0]]), wholes([[5, 5]]), wholes([[0, 5]]), wholes([[1], [2], [3]]),
        ]:
            for wide in range(len(rows[0]) + 1):
                self.is_reduced(rows, wide)

    def test_rows_that_are_reduced_already(self):
        for rows in [wholes([[1, 0], [0, 1]]), wholes([[0, 1, 5], [0, 0, 0]]), wholes([[1, 2, 0, 4], [0, 0, 1, 3]])]:
            wide = len(rows[0])
            self.is_reduced(rows, wide)
            self.assertEqual(reduced(rows, wide)[1], rows)

    def test_rows_of_noughts(self):
        for many, wide in [(1, 1), (2, 3), (3, 2), (12, 14)]:
            rows = [[NOUGHT] * wide for row in range(many)]
            for asked in range(wide + 1):
                self.assertEqual(self.is_reduced(rows, asked), 0)
                self.assertEqual(reduced(rows, asked)[1], rows)
        for rows in itertools.permutations(wholes([[0, 0, 0], [0, 0, 0], [3, 1, 2], [1, 1, 1]])):
            self.assertEqual(self.is_reduced(list(rows), 3), 2)

    def test_every_small_pattern(self):
        for many, wide in [(1, 3), (2, 2), (3, 2), (2, 3)]:
            for filled in itertools.product([0, 1, -2], repeat=many * wide):
                rows = wholes([filled[row * wide:row * wide + wide] for row in range(many)])
                for asked in range(wide + 1):
                    self.is_reduced(rows, asked)

    def test_rows_that_are_sums_of_others(self):
        numbers = Numbers(16)
        for free, many, wide in [(1, 2, 3), (1, 4, 2), (2, 3, 3), (2, 5, 4), (3, 6, 6), (5, 12, 14)]:
            base = [[Fraction(*numbers.fraction(20)) for column in range(wide)] for row in range(free)]
            rows = []
            for row in range(many):
                often = [numbers.below(7) - 3 for one in base]
                rows.append([sum(often[k] * base[k][column] for k in range(free)) for column in range(wide)])
            for order in [rows, rows[::-1]]:
                self.assertLessEqual(self.is_reduced(pairs(order), wide), free)

    def test_columns_that_are_multiples_of_others(self):
        numbers = Numbers(17)
        for many in [1, 2, 3, 5]:
            rows = [[Fraction(*numbers.fraction(20)) for column in range(2)] for row in range(many)]
            wider = [[0 * row[0], row[0], row[0] * 3, row[1], -row[0] / 7, row[1] * 2 + row[0]] for row in rows]
            for asked in range(7):
                self.assertLessEqual(self.is_reduced(pairs(wider), asked), 2)

    def test_no_more_steps_than_allowed(self):
        numbers = Numbers(18)
        for many in range(1, 13):
            # Noughts above the diagonal's mirror make rows change places too.
            rows = [[numbers.fraction(9) if column + row >= many - 1 else NOUGHT for column in range(14)]
                    for row in range(many)]
            self.is_reduced(rows, 14)
            self.is_reduced(rows, many)

    def test_as_many_as_they_come(self):
        numbers = Numbers(19)
        rows = [[numbers.fraction(1000) for column in range(14)] for row in range(12)]
        for asked in [1, 7, 12, 14]:
            self.assertEqual(self.is_reduced(rows, asked), min(asked, 12))

    def test_numbers_of_many_figures(self):
        numbers = Numbers(20)
        for many, wide in [(1, 1), (2, 3), (3, 4), (5, 5)]:
            rows = [[numbers.fraction(10 ** 60 - 1) for column in range(wide)] for row in range(many)]
            self.assertEqual(self.is_reduced(rows, wide), many)
        rows = [[(numbers.below(10 ** 60), 1) for column in range(14)] for row in range(12)]
        self.assertEqual(self.is_reduced(rows, 12), 12)

    def test_numbers_that_are_all_but_the_same(self):
        # What is only near must not be taken for nought.
        rows = [[ONE, (LONG, LONG + 1)], [ONE, (LONG + 1, LONG + 2)]]
        self.assertEqual(self.is_reduced(rows, 2), 2)
        self.assertEqual(self.is_reduced([rows[0], rows[0]], 2), 1)

    def test_what_was_told_handed_in_again(self):
        numbers = Numbers(21)
        rows = [[numbers.fraction(10 ** 20) for column in range(5)] for row in range(4)]
        end = reduced(rows, 2)[1]
        self.assertEqual(self.is_reduced(end, 5), 4)
        self.assertEqual(reduced(end, 5)[1], reduced(rows, 5)[1])

    def test_what_was_told_stays(self):
        rows = copy.deepcopy(THREE)
        for asked in range(4):
            told = reduced(rows, asked)
            kept = copy.deepcopy(told)
            other = reduced(rows, asked)
            other[0].clear()
            for row in other[1]:
                row.clear()
            other[1].clear()
            self.assertEqual(told, kept)
            self.assertEqual(rows, THREE)
            self.assertEqual(reduced(rows, asked), kept)

    def test_what_was_told_stays_when_rows_are_changed(self):
        for asked in range(4):
            rows = copy.deepcopy(THREE)
            told = reduced(rows, asked)
            kept = copy.deepcopy(told)
            rows[0][0] = (9, 1)
            rows[1].clear()
            rows.pop()
            self.assertEqual(told, kept)
            self.assertEqual(reduced(THREE, asked), kept)

    def test_one_list_as_two_rows(self):
        row = [(2, 1), (3, 1)]
        self.assertEqual(self.is_reduced([row, row], 2), 1)
        end = reduced([row, row], 0)[1]
        end[0].clear()
        self.assertEqual((end[1], row), ([(2, 1), (3, 1)], [(2, 1), (3, 1)]))


if __name__ == "__main__":
    unittest.main()
