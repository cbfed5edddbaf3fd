"""shown and sums."""

import random
import unittest

from tests.helper import (SIZES, ask, cells, hide, keep, keep_all, known, near, shown, sums, sums_by_slices, table,
                          tell)


class Shown(unittest.TestCase):

    def test_at_a_lines_beginning(self):
        self.assertEqual(ask(shown(), keep(1, 1), shown(), tell(1, 1), shown()),
                         [[1, 1, 1, 0], [0, 0], [1, 1, 0], [0], [1, 1, 1, 0]])

    def test_no_cell_kept(self):
        for r, c in SIZES:
            numbers = list(range(30, 30 + r * c))
            with self.subTest(r=r, c=c):
                expected = [r, c] + [number for each in numbers for number in (1, each)]
                self.assertEqual(ask(table(r, c, numbers), shown())[1], expected)

    def test_all_cells_kept(self):
        for r, c in SIZES:
            with self.subTest(r=r, c=c):
                self.assertEqual(ask(table(r, c, [5] * (r * c)), *keep_all(r, c), shown())[-1], [r, c] + [0] * (r * c))

    def test_some_cells_kept(self):
        source = random.Random(31)
        for r, c in SIZES:
            for turn in range(10):
                numbers = [source.choice((0, 1, 2, 99)) for place in range(r * c)]
                kept = [cell for cell in cells(r, c) if source.random() < 0.5]
                expected = [r, c]
                for cell, number in zip(cells(r, c), numbers):
                    expected += [0] if cell in kept else [1, number]
                asked = ask(table(r, c, numbers), *[keep(i, j) for i, j in kept], shown())
                self.assertEqual(asked[-1], expected)

    def test_a_told_0_is_not_a_kept_cell(self):
        asked = ask(table(2, 2, [0, 1, 0, 0]), keep(1, 2), keep(2, 1), shown())
        self.assertEqual(asked[-1], [2, 2, 1, 0, 0, 0, 1, 0])

    def test_cells_kept_with_others_are_not_told(self):
        asked = ask(table(3, 3, [1, 2, 3, 4, 5, 6, 7, 8, 9]), keep(2, 2), hide(1), shown(), keep(3, 3), shown())
        self.assertEqual(asked[3], [3, 3, 0, 0, 1, 3, 0, 0, 1, 6, 1, 7, 1, 8, 1, 9])
        self.assertEqual(asked[5], [3, 3, 0, 0, 1, 3, 0, 0, 1, 6, 1, 7, 1, 8, 0])

    def test_changes_nothing(self):
        asked = ask(table(2, 2, [1, 2, 3, 4]), keep(1, 1), hide(1), shown(), near(9), known(), shown(), near(9), known())
        self.assertEqual(asked[3:6], asked[6:9])


class Sums(unittest.TestCase):

    def test_at_a_lines_beginning(self):
        self.assertEqual(ask(sums(), keep(1, 1), sums()), [[0, 0], [0, 0], [0, 0]])

    def test_rows_ahead_of_columns(self):
        self.assertEqual(ask(table(2, 3, [1, 2, 3, 40, 50, 60]), sums())[1], [6, 150, 41, 52, 63])
        self.assertEqual(ask(table(3, 1, [7, 8, 9]), sums())[1], [7, 8, 9, 24])
        self.assertEqual(ask(table(1, 3, [7, 8, 9]), sums())[1], [24, 7, 8, 9])
        self.assertEqual(ask(table(3, 4, [99] * 12), sums())[1], [396] * 3 + [297] * 4)

    def test_no_some_and_all_cells_kept(self):
        source = random.Random(32)
        for r, c in SIZES:
            for chance in (0, 0.3, 0.7, 1):
                numbers = [source.randint(0, 99) for place in range(r * c)]
                keeps = [keep(i, j) for i, j in cells(r, c) if source.random() < chance]
                expected = sums_by_slices(r, c, numbers)
                asked = ask(table(r, c, numbers), *keeps, sums(), hide(3), sums())
                self.assertEqual([asked[-3], asked[-1]], [expected] * 2)

    def test_another_table_has_other_sums(self):
        asked = ask(table(2, 2, [1, 2, 3, 4]), sums(), table(2, 2, [1, 2, 3, 100]), sums(), table(1, 2, [5, 6]), sums())
        self.assertEqual(asked[1::2], [[3, 7, 4, 6], [3, 7, 4, 6], [11, 5, 6]])


if __name__ == "__main__":
    unittest.main()
