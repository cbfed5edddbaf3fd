"""Promise 2 for first: the first table that may be in which a kept cell has a number."""

import random
import unittest

from tests.helper import (HIGHEST, SIZES, ask, ask_plain, cells, first, fits, hide, keep, keep_all, known, pushed_range,
                          range_of, range_of_all, shown, sums_by_slices, table, tell, wrong_cells)

SQUARE = table(2, 2, [1, 2, 3, 4])
ALL_KEPT = [SQUARE] + keep_all(2, 2)


class FirstRefused(unittest.TestCase):

    def test_no_such_cell(self):
        for r, c in SIZES:
            for v in (0, 3, HIGHEST):
                with self.subTest(r=r, c=c, v=v):
                    wrong = [first(i, j, v) for i, j in wrong_cells(r, c)]
                    self.assertEqual(ask(table(r, c, [3] * (r * c)), *wrong)[1:], [[-1]] * len(wrong))
                    asked = ask(table(r, c, [3] * (r * c)), *keep_all(r, c), *wrong)
                    self.assertEqual(asked[1 + r * c:], [[-1]] * len(wrong))

    def test_a_told_cell(self):
        for r, c in SIZES:
            for i, j in cells(r, c):
                with self.subTest(r=r, c=c, i=i, j=j):
                    asking = [first(i, j, v) for v in (0, 3, 4, HIGHEST)]
                    self.assertEqual(ask(table(r, c, [3] * (r * c)), *asking)[1:], [[-3]] * 4)
                    others = [keep(*cell) for cell in cells(r, c) if cell != (i, j)]
                    self.assertEqual(ask(table(r, c, [3] * (r * c)), *others, *asking)[-4:], [[-3]] * 4)

    def test_a_cell_that_is_told_again(self):
        asked = ask(*ALL_KEPT, tell(1, 1), first(1, 1, 1), first(1, 2, 2), first(1, 2, 3))
        self.assertEqual(asked[6:], [[-3], [1, 2, 3, 4], [-6]])
        asked = ask(SQUARE, keep(1, 1), hide(1), first(2, 2, 5), tell(2, 2), first(2, 2, 5), first(2, 2, 4))
        self.assertEqual(asked[3:], [[2, 1, 2, 5], [4], [-3], [-3]])

    def test_no_such_table(self):
        asked = ask(*ALL_KEPT, first(2, 2, 0), first(2, 2, 2), first(2, 2, 7), first(2, 2, 8), first(2, 2, HIGHEST),
                    first(1, 1, 4), first(2, 1, 0), first(2, 1, 5))
        self.assertEqual(asked[5:], [[-6]] * 8)

    def test_a_cell_that_is_known(self):
        for r, c in SIZES:
            with self.subTest(r=r, c=c):
                numbers = list(range(5, 5 + r * c))
                last = numbers[-1]
                asked = ask(table(r, c, numbers), keep(r, c), first(r, c, last), first(r, c, last - 1),
                            first(r, c, last + 1), first(r, c, 0), first(r, c, HIGHEST))
                self.assertEqual(asked[2:], [numbers] + [[-6]] * 4)

    def test_of_several_the_one_told_first(self):
        asked = ask(SQUARE, keep(1, 1), first(3, 1, HIGHEST), first(1, 3, 1), first(0, 2, 9), first(2, 2, HIGHEST),
                    first(1, 1, HIGHEST))
        self.assertEqual(asked[2:], [[-1], [-1], [-1], [-3], [-6]])

    def test_at_a_lines_beginning(self):
        asked = ask(first(1, 1, 0), first(1, 2, 0), keep(1, 1), first(1, 1, 0), first(1, 1, 1))
        self.assertEqual(asked, [[-3], [-1], [0, 0], [0], [-6]])

    def test_all_is_as_it_was(self):
        asking = [shown(), known(), *range_of_all(2, 2)]
        for call in (first(3, 1, 0), first(1, 2, 9), first(1, 1, 9), first(1, 1, 1), first(2, 1, 3)):
            asked = ask(SQUARE, keep(1, 1), hide(1), tell(1, 2), *asking, call, *asking)
            self.assertEqual(asked[4:10], asked[11:])


class First(unittest.TestCase):

    def test_at_the_least_at_the_greatest_and_between(self):
        tables = [[0, 3, 4, 3], [1, 2, 3, 4], [2, 1, 2, 5], [3, 0, 1, 6]]
        for place, (i, j) in enumerate(cells(2, 2)):
            asked = ask(*ALL_KEPT, *[first(i, j, found[place]) for found in tables])
            self.assertEqual(asked[5:], tables)

    def test_the_first_of_several(self):
        asked = ask(table(2, 3, [1, 1, 1, 1, 1, 1]), *keep_all(2, 3), first(1, 1, 1), first(2, 3, 1), first(1, 3, 0))
        self.assertEqual(asked[7:], [[1, 0, 2, 1, 2, 0], [0, 2, 1, 2, 0, 1], [1, 2, 0, 1, 0, 2]])

    def test_with_cells_told_between(self):
        keeps = [keep(1, 1), keep(1, 3), keep(3, 1), keep(3, 3)]
        asked = ask(table(3, 3, [1, 2, 3, 4, 5, 6, 7, 8, 9]), *keeps, first(3, 3, 9), first(1, 3, 0), first(1, 1, 0))
        self.assertEqual(asked[5:], [[1, 2, 3, 4, 5, 6, 7, 8, 9], [4, 2, 0, 4, 5, 6, 4, 8, 12],
                                     [0, 2, 4, 4, 5, 6, 8, 8, 8]])

    def test_the_cell_is_settled_ahead_of_the_earlier_ones(self):
        # By itself the first cell would be 0; the later one's number lifts it.
        asked = ask(table(2, 3, [1] * 6), *keep_all(2, 3), first(1, 3, 0), first(2, 1, 0), first(2, 3, 2))
        self.assertEqual(asked[7:], [[1, 2, 0, 1, 0, 2], [2, 0, 1, 0, 2, 1], [1, 2, 0, 1, 0, 2]])

    def test_the_largest_number_in_a_corner(self):
        asked = ask(table(3, 3, [2] * 9), *keep_all(3, 3), first(3, 3, 0), first(3, 3, 6), first(3, 2, 6))
        self.assertEqual(asked[10:], [[0, 0, 6, 0, 6, 0, 6, 0, 0], [0, 6, 0, 6, 0, 0, 0, 0, 6],
                                      [0, 0, 6, 6, 0, 0, 0, 6, 0]])

    def test_numbers_above_99(self):
        asked = ask(table(2, 2, [99] * 4), *keep_all(2, 2), first(1, 1, 198), first(1, 1, 150), first(1, 1, 199))
        self.assertEqual(asked[5:], [[198, 0, 0, 198], [150, 48, 48, 150], [-6]])

    def test_changes_nothing(self):
        asked = ask(*ALL_KEPT, first(1, 1, 3), *range_of_all(2, 2), first(1, 1, 3), tell(1, 1))
        self.assertEqual(asked[6:], [[0, 3], [0, 3], [1, 4], [3, 6], [3, 0, 1, 6], [1]])


class FirstAgainstTheSearch(unittest.TestCase):

    def test_every_number_of_every_kept_cell(self):
        source = random.Random(51)
        for r, c in SIZES:
            for turn in range(12 if r * c < 9 else 5):
                numbers = [source.choice((0, 0, 1, 1, 2, 3)) for place in range(r * c)]
                kept = [cell for cell in cells(r, c) if source.random() < source.choice((0.6, 0.9, 1))]
                before = [table(r, c, numbers)] + [keep(i, j) for i, j in kept]
                tries = [first(i, j, v) for i, j in cells(r, c) for v in (0, 1, 2, 3, 4, 6)]
                source.shuffle(tries)
                calls = before + tries[:40 - len(before)]
                self.assertEqual(ask(*calls), ask_plain(*calls), calls)

    def test_both_ends_of_every_range_and_beyond(self):
        source = random.Random(52)
        for r, c in SIZES:
            for turn in range(10):
                numbers = [source.choice((0, 1, 1, 2)) for place in range(r * c)]
                kept = [cell for cell in cells(r, c) if source.random() < source.choice((0.7, 1))]
                before = [table(r, c, numbers)] + [keep(i, j) for i, j in kept]
                ranges = ask(*before, *[range_of(i, j) for i, j in kept])[len(before):]
                ends = [v for low, high in ranges for v in (max(low - 1, 0), low, high, high + 1)]
                tries = [first(*kept[number // 4], v) for number, v in enumerate(ends)]
                source.shuffle(tries)
                calls = before + tries[:40 - len(before)]
                self.assertEqual(ask(*calls), ask_plain(*calls), calls)


class FirstWithNumbersTo99(unittest.TestCase):

    def test_the_largest_size(self):
        source = random.Random(53)
        for turn in range(40):
            numbers = [source.choice((0, 1, 7, 50, 98, 99)) for place in range(12)]
            kept = [source.random() < source.choice((0.7, 1)) for place in range(12)]
            places = [place for place in range(12) if kept[place]]
            before = [table(3, 4, numbers)] + [keep(*cells(3, 4)[place]) for place in places]
            for place in source.sample(places, min(len(places), 3)):
                low, high = pushed_range(3, 4, numbers, kept, place)
                for v in sorted({low, high, (low + high) // 2, source.randint(low, high)}):
                    asked = ask(*before, first(*cells(3, 4)[place], v), first(*cells(3, 4)[place], high + 1))
                    self.assertEqual(asked[-1], [-6])
                    self.assert_first(before, numbers, kept, place, v, asked[-2])

    def assert_first(self, before, numbers, kept, place, v, found):
        """It may be, the cell is v, and no cell can be lower while v and the cells ahead of it stay as they are."""
        self.assertEqual(len(found), 12)
        self.assertEqual(found[place], v)
        self.assertEqual(sums_by_slices(3, 4, found), sums_by_slices(3, 4, numbers))
        self.assertEqual([found[k] for k in range(12) if not kept[k]], [numbers[k] for k in range(12) if not kept[k]])
        self.assertEqual(ask(*before, fits(found))[-1], [1])
        for other in range(12):
            if kept[other] and other != place:
                behind = [kept[k] and k >= other and k != place for k in range(12)]
                self.assertEqual(pushed_range(3, 4, found, behind, other)[0], found[other])


if __name__ == "__main__":
    unittest.main()
