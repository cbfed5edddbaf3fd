"""Promise 3, more: the fewest more cells."""

import random
import unittest

from tests.helper import (HIGHEST, SIZES, Plain, ask, ask_plain, cells, hide, keep, keep_all, known, more, near,
                          pushed_range, range_of_all, shown, table, told)

SQUARE = table(2, 2, [1, 2, 3, 4])


class MoreByHand(unittest.TestCase):

    def test_no_kept_cell(self):
        for r, c in SIZES:
            for w in (0, 1, HIGHEST):
                with self.subTest(r=r, c=c, w=w):
                    self.assertEqual(ask(table(r, c, [7] * (r * c)), more(w))[1:], [[0]])

    def test_at_a_lines_beginning(self):
        self.assertEqual(ask(more(0), more(HIGHEST), keep(1, 1), more(0), more(1)), [[0], [0], [0, 0], [0], [-6]])

    def test_width_0_wants_none(self):
        for r, c in SIZES:
            for i, j in cells(r, c):
                with self.subTest(r=r, c=c, i=i, j=j):
                    self.assertEqual(ask(table(r, c, [7] * (r * c)), keep(i, j), more(0))[-1], [0])

    def test_a_width_that_is_there_already(self):
        self.assertEqual(ask(SQUARE, *keep_all(2, 2), more(0), more(1), more(3))[-3:], [[0]] * 3)
        ring = [keep(1, 1), keep(1, 3), keep(3, 1), keep(3, 3)]
        self.assertEqual(ask(table(3, 4, [5] * 12), *ring, more(10), more(1))[-2:], [[0]] * 2)

    def test_one_two_and_three_more(self):
        keeps = [keep(1, 1), keep(1, 2), keep(2, 1)]
        self.assertEqual(ask(SQUARE, *keeps, more(1), more(3))[-2:], [[1, 2, 2]] * 2)
        self.assertEqual(ask(SQUARE, keep(1, 1), keep(2, 2), more(1), more(3))[-2:], [[2, 1, 2, 2, 1]] * 2)
        self.assertEqual(ask(SQUARE, keep(1, 2), keep(1, 1), more(2))[-1], [2, 2, 1, 2, 2])
        self.assertEqual(ask(SQUARE, keep(1, 1), more(1), more(3))[-2:], [[3, 1, 2, 2, 1, 2, 2]] * 2)
        self.assertEqual(ask(SQUARE, keep(2, 2), more(3))[-1], [3, 1, 1, 1, 2, 2, 1])

    def test_the_first_of_as_few(self):
        asked = ask(table(3, 4, [5] * 12), keep(2, 3), more(1), more(10))
        self.assertEqual(asked[2:], [[3, 1, 1, 1, 3, 2, 1]] * 2)
        asked = ask(table(3, 4, [5] * 12), keep(3, 4), more(10))
        self.assertEqual(asked[2:], [[3, 1, 1, 1, 4, 3, 1]])

    def test_a_later_choice_where_the_first_is_too_narrow(self):
        # Around the second column the cell can go up by 1 and down by 5; around the third by 5 and 5.
        asked = ask(table(2, 3, [5, 1, 5, 9, 5, 5]), keep(1, 1), more(6), more(7), more(10), more(11), more(12))
        first, later = [3, 1, 2, 2, 1, 2, 2], [3, 1, 3, 2, 1, 2, 3]
        self.assertEqual(asked[2:], [first, later, later, [5, 1, 2, 1, 3, 2, 1, 2, 2, 2, 3], [-6]])

    def test_two_cells_share_what_is_kept(self):
        # Each cell alone would rather have the first column; both together are served by each other.
        asked = ask(table(2, 3, [5] * 6), keep(1, 2), keep(2, 3), more(10))
        self.assertEqual(asked[-1], [2, 1, 3, 2, 2])

    def test_each_cell_must_be_wide(self):
        # The ring of the first has no place for the second one's row.
        asked = ask(table(3, 2, [5] * 6), keep(1, 1), keep(3, 2), more(1), keep(2, 1), more(1))
        self.assertEqual(asked[3], [2, 1, 2, 3, 1])
        self.assertEqual(asked[5], [3, 1, 2, 2, 2, 3, 1])


class MoreRefused(unittest.TestCase):

    def test_one_row_or_one_column(self):
        for r, c in [(r, c) for r, c in SIZES if 1 in (r, c)]:
            for w in (1, 2, HIGHEST):
                with self.subTest(r=r, c=c, w=w):
                    self.assertEqual(ask(table(r, c, [9] * (r * c)), keep(r, c), more(w))[-1], [-6])

    def test_just_above_what_all_cells_give(self):
        self.assertEqual(ask(SQUARE, keep(1, 1), more(3), more(4), more(HIGHEST))[2:], [[3, 1, 2, 2, 1, 2, 2], [-6], [-6]])
        self.assertEqual(ask(SQUARE, *keep_all(2, 2), more(3), more(4))[-2:], [[0], [-6]])

    def test_one_cell_that_cannot_be_wide_is_enough(self):
        numbers = [5, 5, 0, 5, 5, 0]
        self.assertEqual(ask(table(2, 3, numbers), keep(1, 1), more(1), keep(1, 3), more(1))[-3:],
                         [[3, 1, 2, 2, 1, 2, 2], [0, 0], [-6]])

    def test_all_is_as_it_was(self):
        asking = [shown(), known(), near(1), near(HIGHEST), *range_of_all(2, 2)]
        asked = ask(SQUARE, keep(1, 1), hide(3), *asking, more(4), *asking)
        self.assertEqual(asked[3:11], asked[12:])
        self.assertEqual(asked[11], [-6])


class MoreChangesNothing(unittest.TestCase):

    def test_the_cells_stay_told(self):
        asking = [shown(), known(), near(1), *range_of_all(2, 2)]
        asked = ask(SQUARE, keep(1, 1), *asking, more(1), *asking, more(1), keep(1, 2))
        self.assertEqual(asked[2:9], asked[10:17])
        self.assertEqual(asked[-2:], [[3, 1, 2, 2, 1, 2, 2], [2, 2]])

    def test_what_is_kept_with_others_changes_no_answer(self):
        source = random.Random(11)
        for r, c in SIZES:
            for turn in range(6):
                numbers = [source.choice((0, 1, 2, 5, 9)) for place in range(r * c)]
                keeps = [keep(i, j) for i, j in source.sample(cells(r, c), min(r * c, source.choice((1, 2))))]
                asking = [more(w) for w in (0, 1, 2, 3, 6)]
                without = ask(table(r, c, numbers), *keeps, *asking)[-5:]
                for w in (0, 1, 2, 3, 6):
                    self.assertEqual(ask(table(r, c, numbers), *keeps, hide(w), *asking)[-5:], without)


class MoreAgainstTheSearch(unittest.TestCase):

    def test_every_size(self):
        source = random.Random(12)
        for r, c in SIZES:
            for turn in range(60 if r * c < 9 else 20):
                numbers = [source.choice((0, 0, 1, 1, 2, 3) if r * c < 9 else (0, 0, 0, 1, 1, 2)) for n in range(r * c)]
                own = source.sample(cells(r, c), source.randint(1, min(r * c, 5)))
                calls = [table(r, c, numbers)] + [keep(i, j) for i, j in own] + [more(w) for w in range(6)]
                self.assertEqual(ask(*calls), ask_plain(*calls), calls)

    def test_every_choice_of_kept_cells_in_small_sizes(self):
        source = random.Random(13)
        for r, c in [(1, 1), (1, 2), (2, 1), (1, 4), (3, 1), (2, 2), (2, 3), (3, 2), (2, 4)]:
            for mask in range(2 ** (r * c)):
                numbers = [source.choice((0, 1, 1, 2)) for place in range(r * c)]
                own = [cell for place, cell in enumerate(cells(r, c)) if mask >> place & 1]
                calls = [table(r, c, numbers)] + [keep(i, j) for i, j in own] + [more(w) for w in range(1, 4)]
                self.assertEqual(ask(*calls), ask_plain(*calls), calls)

    def test_many_cells_wanted_in_the_largest_size(self):
        # The greatest width that all cells together give, and those just below it.
        source = random.Random(14)
        counts = []
        for turn in range(12):
            numbers = [source.choice((0, 0, 1, 1, 2)) for place in range(12)]
            own = source.randrange(12)
            plain = Plain()
            plain.set_table(3, 4, numbers)
            widest = plain.width(own, set(range(12)))
            bounds = [w for w in (widest + 1, widest, widest - 1) if w >= 0]
            calls = [table(3, 4, numbers), keep(*cells(3, 4)[own])] + [more(w) for w in bounds]
            asked = ask(*calls)
            self.assertEqual(asked, ask_plain(*calls), calls)
            counts.append(asked[3][0])
        self.assertGreater(max(counts), 4)


class MoreWithNumbersTo99(unittest.TestCase):

    def widths(self, numbers, own, kept):
        ends = [pushed_range(3, 4, numbers, kept, place) for place in own]
        return [high - low for low, high in ends]

    def test_the_cells_are_enough_and_each_is_wanted(self):
        source = random.Random(15)
        for turn in range(30):
            numbers = [source.choice((0, 1, 3, 20, 50, 98, 99)) for place in range(12)]
            own = sorted(source.sample(range(12), source.choice((1, 1, 2, 3))))
            most = min(self.widths(numbers, own, [True] * 12))
            for w in sorted({most, most * 9 // 10, most // 2, min(most, 1)}):
                calls = [table(3, 4, numbers)] + [keep(*cells(3, 4)[place]) for place in own] + [more(w), more(most + 1)]
                answer, refusal = ask(*calls)[-2:]
                self.assertEqual(refusal, [-6])
                self.assert_enough(numbers, own, answer, w)

    def assert_enough(self, numbers, own, answer, w):
        chosen = [cells(3, 4).index(cell) for cell in zip(answer[1::2], answer[2::2])]
        self.assertEqual(answer, told([cells(3, 4)[place] for place in sorted(set(chosen) - set(own))]))
        kept = [place in own or place in chosen for place in range(12)]
        self.assertGreaterEqual(min(self.widths(numbers, own, kept)), w)
        for dropped in chosen:
            fewer = [kept[place] and place != dropped for place in range(12)]
            self.assertLess(min(self.widths(numbers, own, fewer)), w)

    def test_an_answer_comes_for_the_most_cells(self):
        for i, j in cells(3, 4):
            numbers = [1] * 12
            numbers[cells(3, 4).index((i, j))] = 99
            calls = [table(3, 4, numbers), keep(i, j)] + [more(w) for w in (1, 2, 3, 4, 5, 6, 99, HIGHEST)]
            asked = ask(*calls)
            # One ring lets the cell go up by 1 and down by 1; a third wants two cells more.
            self.assertEqual([answer[0] for answer in asked[2:5]], [3, 3, 5])
            self.assertEqual(asked[-1], [-6])


if __name__ == "__main__":
    unittest.main()
