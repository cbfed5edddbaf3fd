"""fits: whether numbers are a table that may be."""

import itertools
import random
import unittest

from tests.helper import (HIGHEST, SIZES, ask, cells, fits, hide, keep, keep_all, known, shown, table,
                          tables_that_may_be)

NUMBERS = [1, 2, 3, 4]
SQUARE = table(2, 2, NUMBERS)


def fitting(before, *tries):
    """What fits answers to each of these, behind the calls before."""
    return [answer for answer, in ask(*before, *[fits(numbers) for numbers in tries])[len(before):]]


class Fits(unittest.TestCase):

    def test_at_a_lines_beginning(self):
        self.assertEqual(fitting([], [0], [1], [], [0, 0], [HIGHEST]), [1, 0, 0, 0, 0])
        self.assertEqual(fitting([keep(1, 1)], [0], [1], [HIGHEST]), [1, 0, 0])

    def test_too_few_too_many_and_no_numbers(self):
        for r, c in SIZES:
            for keeps in ([], keep_all(r, c)):
                numbers = [3] * (r * c)
                wrong = [[], numbers[:-1], numbers + [0], numbers + [3], numbers + numbers, [3] * 20, [0] * 20]
                wrong = [tried for tried in wrong if len(tried) != r * c and len(tried) <= 20]
                with self.subTest(r=r, c=c, keeps=keeps):
                    self.assertEqual(fitting([table(r, c, numbers)] + keeps, *wrong), [0] * len(wrong))

    def test_as_many_numbers_in_another_size(self):
        self.assertEqual(fitting([table(2, 3, [0] * 6)], [0] * 6, [0] * 4, [0] * 9), [1, 0, 0])

    def test_the_table_itself(self):
        source = random.Random(41)
        for r, c in SIZES:
            for chance in (0, 0.5, 1):
                numbers = [source.randint(0, 99) for place in range(r * c)]
                keeps = [keep(i, j) for i, j in cells(r, c) if source.random() < chance]
                with self.subTest(r=r, c=c, keeps=keeps):
                    self.assertEqual(fitting([table(r, c, numbers)] + keeps, numbers), [1])
                    self.assertEqual(fitting([table(r, c, numbers)] + keeps + [hide(1)], numbers), [1])

    def test_another_told_cell(self):
        # All sums are right, but the last cell is told, and so none of the ring can be other.
        ring = [2, 1, 2, 5]
        three = [keep(1, 1), keep(1, 2), keep(2, 1)]
        self.assertEqual(fitting([SQUARE], ring), [0])
        self.assertEqual(fitting([SQUARE] + three, ring), [0])
        self.assertEqual(fitting([SQUARE] + three + [keep(2, 2)], ring), [1])

    def test_another_sum_of_a_row(self):
        # Each column keeps its sum.
        self.assertEqual(fitting([SQUARE] + keep_all(2, 2), [2, 2, 2, 4], [1, 6, 3, 0], [4, 6, 0, 0]), [0, 0, 0])

    def test_another_sum_of_a_column(self):
        # Each row keeps its sum.
        self.assertEqual(fitting([SQUARE] + keep_all(2, 2), [2, 1, 3, 4], [1, 2, 4, 3], [3, 0, 7, 0]), [0, 0, 0])

    def test_another_sum_of_both(self):
        self.assertEqual(fitting([SQUARE] + keep_all(2, 2), [0, 0, 0, 0], [1, 2, 3, 5], [4, 3, 2, 1]), [0, 0, 0])

    def test_a_right_other_table(self):
        every = [[0, 3, 4, 3], [1, 2, 3, 4], [2, 1, 2, 5], [3, 0, 1, 6]]
        self.assertEqual(fitting([SQUARE] + keep_all(2, 2), *every), [1] * 4)
        self.assertEqual(fitting([SQUARE, keep(1, 1), hide(1)], *every), [1] * 4)
        self.assertEqual(fitting([SQUARE, keep(1, 1)], *every), [0, 1, 0, 0])

    def test_a_number_above_99_may_be(self):
        self.assertEqual(fitting([table(2, 2, [99, 99, 99, 99])] + keep_all(2, 2), [198, 0, 0, 198]), [1])

    def test_the_highest_numbers(self):
        for r, c in SIZES:
            with self.subTest(r=r, c=c):
                before = [table(r, c, [1] * (r * c))] + keep_all(r, c)
                one = [1] * (r * c - 1) + [HIGHEST]
                self.assertEqual(fitting(before, [HIGHEST] * (r * c), one, [HIGHEST] * 20), [0, 0, 0])

    def test_changes_nothing(self):
        asked = ask(SQUARE, keep(1, 1), hide(1), shown(), known(), fits([2, 1, 2, 5]), fits([9]), shown(), known())
        self.assertEqual(asked[3:5], asked[7:])

    def test_every_table_of_low_numbers(self):
        source = random.Random(42)
        for r, c in [(1, 1), (1, 2), (2, 1), (1, 4), (3, 1), (2, 2), (2, 3), (3, 2)]:
            for turn in range(5):
                numbers = [source.choice((0, 1, 2)) for place in range(r * c)]
                kept = [source.random() < 0.8 for place in range(r * c)]
                before = [table(r, c, numbers)] + [keep(*cell) for cell, is_kept in zip(cells(r, c), kept) if is_kept]
                right = set(tables_that_may_be(r, c, numbers, kept))
                tries = list(itertools.product(range(4), repeat=r * c))
                source.shuffle(tries)
                tries = [found for found in sorted(right)[:10]] + tries[:100]
                for start in range(0, len(tries), 20):
                    some = tries[start:start + 20]
                    self.assertEqual(fitting(before, *some), [int(tried in right) for tried in some])


if __name__ == "__main__":
    unittest.main()
