"""Promise 2, as far as it speaks of keep, tell and range."""

import unittest

from tests.helper import HIGHEST, SIZES, ask, cells, keep, known, near, range_of, table, tell, wrong_cells

SQUARE = table(2, 2, [1, 2, 3, 4])


class NoSuchCell(unittest.TestCase):

    def test_keep_tell_and_range(self):
        for r, c in SIZES:
            for name, call in (("keep", keep), ("tell", tell), ("range", range_of)):
                with self.subTest(r=r, c=c, name=name):
                    wrong = [call(i, j) for i, j in wrong_cells(r, c)]
                    asked = ask(table(r, c, [3] * (r * c)), *wrong)
                    self.assertEqual(asked[1:], [[-1]] * len(wrong))

    def test_all_is_as_it_was(self):
        for r, c in SIZES:
            for call in (keep, tell, range_of):
                with self.subTest(r=r, c=c):
                    wrong = [call(i, j) for i, j in wrong_cells(r, c)]
                    calls = [table(r, c, [3] * (r * c)), keep(1, 1)] + wrong + [near(HIGHEST), known(), range_of(r, c)]
                    self.assertEqual(ask(*calls)[-3:], [[1, 1, 1], [1, 1, 1], [3, 3]])

    def test_told_ahead_of_the_other_refusals(self):
        # Beyond the row lies, row by row, the next row's first cell: it is kept here, and the row's own is not.
        asked = ask(SQUARE, keep(2, 1), keep(1, 3), tell(1, 3), keep(2, 0), tell(2, 0), tell(3, 0), keep(0, 3))
        self.assertEqual(asked[2:], [[-1]] * 6)


class Keep(unittest.TestCase):

    def test_kept_already(self):
        for r, c in SIZES:
            for i, j in cells(r, c):
                with self.subTest(r=r, c=c, i=i, j=j):
                    asked = ask(table(r, c, [2] * (r * c)), keep(i, j), keep(i, j), keep(i, j), near(HIGHEST))
                    self.assertEqual(asked[1:], [[2, 2], [-4], [-4], [1, i, j]])

    def test_refusal_leaves_it_kept(self):
        asked = ask(SQUARE, keep(1, 2), keep(1, 2), tell(1, 2), tell(1, 2), keep(1, 2))
        self.assertEqual(asked[1:], [[2, 2], [-4], [2], [-3], [2, 2]])

    def test_one_keep_changes_another_cells_range(self):
        asked = ask(SQUARE, keep(1, 1), keep(1, 2), keep(2, 1), range_of(1, 1),
                    keep(2, 2), range_of(1, 1), range_of(1, 2), range_of(2, 1), range_of(2, 2))
        self.assertEqual(asked[1:], [[1, 1], [2, 2], [3, 3], [1, 1], [3, 6], [0, 3], [0, 3], [1, 4], [3, 6]])


class Tell(unittest.TestCase):

    def test_answers_the_number_of_every_cell(self):
        for r, c in SIZES:
            numbers = list(range(11, 11 + r * c))
            with self.subTest(r=r, c=c):
                keeps = [keep(i, j) for i, j in cells(r, c)]
                asked = ask(table(r, c, numbers), *keeps, *[tell(i, j) for i, j in cells(r, c)], known())
                self.assertEqual(asked[1 + r * c:], [[number] for number in numbers] + [[0]])

    def test_not_kept(self):
        for r, c in SIZES:
            with self.subTest(r=r, c=c):
                tells = [tell(i, j) for i, j in cells(r, c)]
                self.assertEqual(ask(table(r, c, [2] * (r * c)), *tells)[1:], [[-3]] * (r * c))

    def test_not_kept_leaves_all_as_it_was(self):
        asked = ask(SQUARE, keep(1, 1), tell(1, 2), tell(2, 1), tell(2, 2), near(HIGHEST), range_of(1, 2), tell(1, 1))
        self.assertEqual(asked[1:], [[1, 1], [-3], [-3], [-3], [1, 1, 1], [2, 2], [1]])

    def test_a_told_cell_is_not_kept_any_more(self):
        keeps = [keep(i, j) for i, j in cells(2, 2)]
        asked = ask(SQUARE, *keeps, tell(2, 2), tell(2, 2), range_of(2, 2), range_of(1, 1), known(), keep(2, 2))
        self.assertEqual(asked[5:], [[4], [-3], [4, 4], [1, 1], [3, 1, 1, 1, 2, 2, 1], [3, 6]])


class RangeOf(unittest.TestCase):

    def test_changes_nothing(self):
        asked = ask(SQUARE, range_of(1, 1), tell(1, 1), keep(1, 1), range_of(1, 1), range_of(1, 1), keep(1, 1))
        self.assertEqual(asked[1:], [[1, 1], [-3], [1, 1], [1, 1], [1, 1], [-4]])


if __name__ == "__main__":
    unittest.main()
