"""Promise 1: table."""

import unittest

from tests.helper import HIGHEST, SIZES, ask, cells, keep, known, range_of, table, tell


class TableTaken(unittest.TestCase):

    def test_beginning_is_one_told_zero(self):
        self.assertEqual(ask(range_of(1, 1), known(), range_of(1, 2), range_of(2, 1)), [[0, 0], [0], [-1], [-1]])

    def test_beginning_can_be_kept(self):
        self.assertEqual(ask(keep(1, 1), known(), tell(1, 1)), [[0, 0], [1, 1, 1], [0]])

    def test_every_size_answers_its_total(self):
        for r, c in SIZES:
            numbers = list(range(7, 7 + r * c))
            with self.subTest(r=r, c=c):
                self.assertEqual(ask(table(r, c, numbers)), [[sum(numbers)]])

    def test_numbers_lie_row_by_row(self):
        for r, c in SIZES:
            numbers = list(range(50, 50 + r * c))
            asked = ask(table(r, c, numbers), *[range_of(i, j) for i, j in cells(r, c)])
            with self.subTest(r=r, c=c):
                self.assertEqual(asked[1:], [[number, number] for number in numbers])

    def test_cells_just_beyond_the_size_are_not_there(self):
        for r, c in SIZES:
            with self.subTest(r=r, c=c):
                asked = ask(table(r, c, [1] * (r * c)), range_of(r + 1, 1), range_of(1, c + 1), range_of(r, c))
                self.assertEqual(asked[1:], [[-1], [-1], [1, 1]])

    def test_number_99_is_taken(self):
        self.assertEqual(ask(table(1, 1, [99]), range_of(1, 1)), [[99], [99, 99]])
        self.assertEqual(ask(table(3, 4, [99] * 12)), [[1188]])
        self.assertEqual(ask(table(2, 2, [0, 0, 0, 0])), [[0]])

    def test_table_again_tells_all_cells(self):
        kept = [keep(i, j) for i, j in cells(2, 2)]
        asked = ask(table(2, 2, [1, 2, 3, 4]), *kept, table(2, 2, [1, 2, 3, 4]),
                    known(), tell(1, 1), tell(2, 2), range_of(1, 1), range_of(2, 2))
        self.assertEqual(asked[5:], [[10], [0], [-3], [-3], [1, 1], [4, 4]])

    def test_table_again_of_another_size(self):
        asked = ask(table(3, 4, [5] * 12), keep(3, 4), table(1, 2, [8, 9]), range_of(1, 2), range_of(3, 4),
                    table(2, 3, [1, 2, 3, 4, 5, 6]), range_of(2, 3), known())
        self.assertEqual(asked, [[60], [5, 5], [17], [9, 9], [-1], [21], [6, 6], [0]])


class TableRefused(unittest.TestCase):

    def assert_refused(self, call):
        """Refused, at the beginning and later, and all as it was: the numbers, the size and what is kept."""
        self.assertEqual(ask(call, range_of(1, 1), range_of(1, 2), tell(1, 1)), [[-1], [0, 0], [-1], [-3]])
        before = [table(2, 2, [1, 2, 3, 4])] + [keep(i, j) for i, j in cells(2, 2)] + [tell(2, 2)]
        asked = ask(*before, call, range_of(1, 1), range_of(2, 2), range_of(3, 1), range_of(1, 3), known(), tell(2, 2))
        self.assertEqual(asked[6:], [[-1], [1, 1], [4, 4], [-1], [-1], [3, 1, 1, 1, 2, 2, 1], [-3]])

    def test_rows(self):
        for r in (0, 4, 5, 100, HIGHEST):
            for c in (1, 2, 4):
                with self.subTest(r=r, c=c):
                    self.assert_refused(table(r, c, [1] * min(r * c, 20)))

    def test_columns(self):
        for c in (0, 5, 6, 100, HIGHEST):
            for r in (1, 2, 3):
                with self.subTest(r=r, c=c):
                    self.assert_refused(table(r, c, [1] * min(r * c, 20)))

    def test_rows_and_columns_both_wrong(self):
        for r, c in ((0, 0), (4, 5), (HIGHEST, HIGHEST), (4, 3), (6, 2), (12, 1), (2, 6), (1, 12)):
            with self.subTest(r=r, c=c):
                self.assert_refused(table(r, c, [1] * min(r * c, 20)))

    def test_how_many_numbers(self):
        for r, c in SIZES:
            for count in sorted({0, r * c - 1, r * c + 1, 20}):
                with self.subTest(r=r, c=c, count=count):
                    self.assert_refused(table(r, c, [1] * count))

    def test_a_number_above_99(self):
        for r, c in SIZES:
            for high in (100, 101, HIGHEST):
                for place in sorted({0, r * c // 2, r * c - 1}):
                    numbers = [99] * (r * c)
                    numbers[place] = high
                    with self.subTest(r=r, c=c, high=high, place=place):
                        self.assert_refused(table(r, c, numbers))

    def test_all_wrong_at_once(self):
        self.assert_refused(table(HIGHEST, HIGHEST, [HIGHEST] * 20))
        self.assert_refused(table(0, 0, [HIGHEST] * 20))


if __name__ == "__main__":
    unittest.main()
