"""known and near."""

import random
import unittest

from tests.helper import HIGHEST, SIZES, ask, cells, keep, known, near, searched_ranges, table, tell, told

SQUARE = table(2, 2, [1, 2, 3, 4])
# With the cells of RING kept, each of these has width 4, and any one more cell that is kept has width 0.
WIDE = table(3, 3, [2, 9, 2, 2, 9, 2, 9, 9, 9])
RING = [keep(1, 1), keep(1, 3), keep(2, 1), keep(2, 3)]


class Known(unittest.TestCase):

    def test_no_cell_kept(self):
        for r, c in SIZES:
            with self.subTest(r=r, c=c):
                self.assertEqual(ask(table(r, c, [1] * (r * c)), known())[1:], [[0]])

    def test_told_cells_are_not_among_them(self):
        self.assertEqual(ask(SQUARE, keep(1, 2), known(), tell(1, 2), known())[2:], [[1, 1, 2], [2], [0]])

    def test_none_of_the_kept_cells(self):
        self.assertEqual(ask(WIDE, *RING, known())[-1], [0])

    def test_some_of_the_kept_cells(self):
        self.assertEqual(ask(WIDE, *RING, keep(3, 2), known())[-1], [1, 3, 2])

    def test_all_of_the_kept_cells_row_by_row(self):
        asked = ask(table(3, 4, [1] * 12), keep(3, 1), keep(2, 4), keep(1, 2), known())
        self.assertEqual(asked[-1], [3, 1, 2, 2, 4, 3, 1])

    def test_known_though_in_a_ring(self):
        # The four cells could only change against one another, and a 0 on each diagonal lets none.
        asked = ask(table(2, 2, [0, 0, 0, 5]), *[keep(i, j) for i, j in cells(2, 2)], known())
        self.assertEqual(asked[-1], [4, 1, 1, 1, 2, 2, 1, 2, 2])


class Near(unittest.TestCase):

    def test_no_cell_kept(self):
        for r, c in SIZES:
            for w in (0, 1, HIGHEST):
                with self.subTest(r=r, c=c, w=w):
                    self.assertEqual(ask(table(r, c, [1] * (r * c)), near(w))[1:], [[0]])

    def test_none_some_and_all(self):
        asked = ask(WIDE, *RING, keep(3, 2), near(0), near(1), near(4), near(5), near(HIGHEST))
        all_five = [5, 1, 1, 1, 3, 2, 1, 2, 3, 3, 2]
        self.assertEqual(asked[-5:], [[0], [1, 3, 2], [1, 3, 2], all_five, all_five])

    def test_width_0_at_its_edges(self):
        self.assertEqual(ask(SQUARE, keep(2, 1), near(0), near(1))[2:], [[0], [1, 2, 1]])

    def test_just_the_width_and_one_above(self):
        asked = ask(SQUARE, *[keep(i, j) for i, j in cells(2, 2)], near(2), near(3), near(4))
        self.assertEqual(asked[-3:], [[0], [0], [4, 1, 1, 1, 2, 2, 1, 2, 2]])

    def test_row_by_row_however_they_were_kept(self):
        backwards = [keep(i, j) for i, j in reversed(cells(3, 4))]
        asked = ask(table(3, 4, [1] * 12), *backwards, near(HIGHEST))
        self.assertEqual(asked[-1], told(cells(3, 4)))

    def test_changes_nothing(self):
        asked = ask(SQUARE, keep(1, 1), near(9), known(), near(9), known(), tell(1, 2), keep(1, 1))
        self.assertEqual(asked[2:], [[1, 1, 1]] * 4 + [[-3], [-4]])


class AgainstTheSearch(unittest.TestCase):

    def test_known_and_near(self):
        source = random.Random(6)
        for r, c in SIZES:
            for turn in range(60):
                numbers = [source.choice((0, 0, 1, 2, 3)) for place in range(r * c)]
                kept = [source.random() < source.choice((0.3, 0.7, 1)) for place in numbers]
                self.assert_lists(r, c, numbers, kept)

    def assert_lists(self, r, c, numbers, kept):
        kept_cells = [cell for place, cell in enumerate(cells(r, c)) if kept[place]]
        widths = dict(zip(cells(r, c), [high - low for low, high in searched_ranges(r, c, numbers, kept)]))
        bounds = list(range(8)) + [HIGHEST]
        calls = [table(r, c, numbers)] + [keep(i, j) for i, j in kept_cells]
        asked = ask(*calls, known(), *[near(w) for w in bounds])[len(calls):]
        self.assertEqual(asked[0], told([cell for cell in kept_cells if widths[cell] == 0]))
        for w, answer in zip(bounds, asked[1:]):
            self.assertEqual(answer, told([cell for cell in kept_cells if widths[cell] < w]))


if __name__ == "__main__":
    unittest.main()
