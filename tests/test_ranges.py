"""keep and range, held against a plain search over all tables that may be."""

import random
import unittest

from tests.helper import (SIZES, Plain, ask, cells, keep, pushed_range, range_of, range_of_all, searched_ranges, table,
                          tables_that_may_be, tell)


def places_kept(count, mask):
    return [bool(mask >> place & 1) for place in range(count)]


class Search(unittest.TestCase):
    """The search itself, on tables counted by hand."""

    def test_all_told(self):
        self.assertEqual(list(tables_that_may_be(2, 2, [1, 2, 3, 4], [False] * 4)), [(1, 2, 3, 4)])

    def test_square(self):
        found = list(tables_that_may_be(2, 2, [1, 0, 0, 1], [True] * 4))
        self.assertEqual(found, [(0, 1, 1, 0), (1, 0, 0, 1)])

    def test_square_beside_a_told_column(self):
        found = list(tables_that_may_be(2, 3, [1, 7, 1, 1, 8, 0], [True, False, True] * 2))
        self.assertEqual(found, [(1, 7, 1, 1, 8, 0), (2, 7, 0, 0, 8, 1)])


    def test_the_other_ways_to_search_find_the_same(self):
        source = random.Random(7)
        for r, c in SIZES:
            for turn in range(20):
                numbers = [source.choice((0, 0, 1, 1, 2)) for place in range(r * c)]
                kept = [source.random() < source.choice((0.6, 0.9, 1)) for place in numbers]
                places = [place for place in range(r * c) if kept[place]]
                ranges = searched_ranges(r, c, numbers, kept)
                plain = Plain()
                plain.set_table(r, c, numbers)
                self.assertEqual(sorted(plain.may_be(places)), sorted(tables_that_may_be(r, c, numbers, kept)))
                for place in places:
                    self.assertEqual(pushed_range(r, c, numbers, kept, place), ranges[place])
                    self.assertEqual(plain.ends(place, places), ranges[place])


class Ranges(unittest.TestCase):

    def assert_ranges(self, r, c, numbers, kept, order):
        """Every range once these are kept in this order, and the range that the last keep answers."""
        expected = searched_ranges(r, c, numbers, kept)
        keeps = [keep(place // c + 1, place % c + 1) for place in order]
        asked = ask(table(r, c, numbers), *keeps, *[range_of(i, j) for i, j in cells(r, c)])
        self.assertEqual(asked[1 + len(order):], expected, (r, c, numbers, kept))
        if order:
            self.assertEqual(asked[len(order)], expected[order[-1]], (r, c, numbers, kept))

    def test_every_choice_of_kept_cells_in_every_size(self):
        source = random.Random(1)
        for r, c in SIZES:
            for mask in range(2 ** (r * c)):
                kept = places_kept(r * c, mask)
                order = [place for place in range(r * c) if kept[place]]
                source.shuffle(order)
                numbers = [source.choice((0, 0, 1, 1, 2, 3)) for place in kept]
                self.assert_ranges(r, c, numbers, kept, order)

    def test_many_tables_of_small_sizes(self):
        source = random.Random(2)
        for r, c in [(2, 2), (2, 3), (3, 2), (3, 3), (2, 4), (3, 4)]:
            for turn in range(200):
                kept = [source.random() < source.choice((0.6, 0.9)) for place in range(r * c)]
                order = [place for place in range(r * c) if kept[place]]
                numbers = [source.choice((0, 0, 0, 1, 2, 4)) for place in kept]
                self.assert_ranges(r, c, numbers, kept, order)

    def test_numbers_up_to_99(self):
        # Two rows and two columns of kept cells alone, since the search tries every number up to the sums.
        source = random.Random(3)
        for r, c in SIZES:
            for turn in range(4):
                rows = source.sample(range(r), min(r, 2))
                columns = source.sample(range(c), min(c, 2))
                kept = [place // c in rows and place % c in columns for place in range(r * c)]
                numbers = [source.choice((0, 1, 50, 98, 99)) for place in kept]
                self.assert_ranges(r, c, numbers, kept, [place for place in range(r * c) if kept[place]])

    def test_numbers_up_to_99_in_every_choice_of_kept_cells(self):
        source = random.Random(8)
        for turn in range(300):
            r, c = source.choice(SIZES)
            numbers = [source.choice((0, 1, 50, 98, 99)) for place in range(r * c)]
            kept = [source.random() < source.choice((0.5, 0.8, 1)) for place in numbers]
            keeps = [keep(*cell) for cell, is_kept in zip(cells(r, c), kept) if is_kept]
            asked = ask(table(r, c, numbers), *keeps, *range_of_all(r, c))[1 + len(keeps):]
            for place in range(r * c):
                expected = pushed_range(r, c, numbers, kept, place) if kept[place] else [numbers[place]] * 2
                self.assertEqual(asked[place], expected)

    def test_keep_answers_the_range_of_each_moment(self):
        source = random.Random(4)
        for r, c in SIZES:
            for turn in range(6):
                numbers = [source.choice((0, 1, 2)) for place in range(r * c)]
                order = list(range(r * c))
                source.shuffle(order)
                asked = ask(table(r, c, numbers), *[keep(place // c + 1, place % c + 1) for place in order])
                for step, place in enumerate(order, start=1):
                    kept = [other in order[:step] for other in range(r * c)]
                    self.assertEqual(asked[step], searched_ranges(r, c, numbers, kept)[place])

    def test_ranges_after_cells_are_told_again(self):
        source = random.Random(5)
        for r, c in SIZES:
            for turn in range(10):
                numbers = [source.choice((0, 1, 2)) for place in range(r * c)]
                told = [place for place in range(r * c) if source.random() < 0.3]
                calls = [table(r, c, numbers)] + [keep(i, j) for i, j in cells(r, c)]
                calls += [tell(place // c + 1, place % c + 1) for place in told]
                asked = ask(*calls, *[range_of(i, j) for i, j in cells(r, c)])
                kept = [place not in told for place in range(r * c)]
                self.assertEqual(asked[len(calls):], searched_ranges(r, c, numbers, kept))


class RangesByHand(unittest.TestCase):

    def test_all_of_the_largest_table(self):
        keeps = [keep(i, j) for i, j in cells(3, 4)]
        asked = ask(table(3, 4, [99] * 12), *keeps, range_of(1, 1), range_of(3, 4))
        self.assertEqual(asked[-2:], [[0, 297], [0, 297]])

    def test_a_cell_alone_in_its_row_is_known(self):
        asked = ask(table(3, 3, [5] * 9), keep(1, 1), keep(2, 1), keep(2, 2), keep(3, 1), keep(3, 2), range_of(1, 1))
        self.assertEqual(asked[-1], [5, 5])

    def test_least_above_zero_by_two_rows(self):
        # The first two rows have 16 left; but for the cell that is asked for it lies in columns that have 12.
        numbers = [6, 4, 1, 3, 5, 0, 1, 0, 2]
        kept = [True, True, True, False, True, False, True, True, True]
        keeps = [keep(place // 3 + 1, place % 3 + 1) for place in range(9) if kept[place]]
        asked = ask(table(3, 3, numbers), *keeps, range_of(1, 1))
        self.assertEqual(asked[-1], searched_ranges(3, 3, numbers, kept)[0])
        self.assertEqual(asked[-1], [4, 7])


if __name__ == "__main__":
    unittest.main()
