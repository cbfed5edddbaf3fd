"""Promise 3, hide; and what the other calls say of cells that are kept with others."""

import random
import unittest

from tests.helper import (HIGHEST, SIZES, ask, ask_plain, cells, first, fits, hide, keep, keep_all, known, more, near,
                          range_of, range_of_all, shown, sums, table, tell, told)

SQUARE = table(2, 2, [1, 2, 3, 4])
# Around the second column the cell at 1, 1 can go up by 1 and down by 5, around the third by 5 and 5.
WIDE = table(2, 3, [5, 1, 5, 9, 5, 5])


class Hide(unittest.TestCase):

    def test_no_kept_cell(self):
        for r, c in SIZES:
            for w in (0, 1, HIGHEST):
                with self.subTest(r=r, c=c, w=w):
                    asked = ask(table(r, c, [7] * (r * c)), hide(w), known(), shown())
                    self.assertEqual(asked[1:], [[0], [0], [r, c] + [1, 7] * (r * c)])

    def test_at_a_lines_beginning(self):
        self.assertEqual(ask(hide(5), keep(1, 1), hide(0), hide(1), shown()), [[0], [0, 0], [0], [-6], [1, 1, 0]])

    def test_keeps_just_what_more_answers(self):
        source = random.Random(21)
        for r, c in SIZES:
            for turn in range(8):
                numbers = [source.choice((0, 1, 2, 5, 30, 99)) for place in range(r * c)]
                own = source.sample(cells(r, c), source.randint(1, min(r * c, 3)))
                for w in (0, 1, 2, 4, 20):
                    self.assert_kept_as_more_answers(r, c, numbers, own, w)

    def assert_kept_as_more_answers(self, r, c, numbers, own, w):
        keeps = [keep(i, j) for i, j in own]
        asked = ask(table(r, c, numbers), *keeps, more(w), hide(w), shown(), near(w), near(HIGHEST))
        answer, count, sight, too_near, all_own = asked[-5:]
        self.assertEqual(all_own, told(sorted(own)))
        if answer == [-6]:
            self.assertEqual(count, [-6])
            kept = own
        else:
            self.assertEqual(count, [answer[0]])
            self.assertEqual(too_near, [0])
            kept = own + list(zip(answer[1::2], answer[2::2]))
        expected = [r, c]
        for cell, number in zip(cells(r, c), numbers):
            expected += [0] if cell in kept else [1, number]
        self.assertEqual(sight, expected)

    def test_a_second_takes_the_place_of_the_first(self):
        asked = ask(WIDE, keep(1, 1), hide(6), shown(), hide(10), shown(), hide(6), shown(), hide(11), shown(),
                    hide(0), shown())
        self.assertEqual(asked[2::2], [[3], [3], [3], [5], [0]])
        second, third = [2, 3, 0, 0, 1, 5, 0, 0, 1, 5], [2, 3, 0, 1, 1, 0, 0, 1, 5, 0]
        self.assertEqual(asked[3::2], [second, third, second, [2, 3] + [0] * 6, [2, 3, 0, 1, 1, 1, 5, 1, 9, 1, 5, 1, 5]])

    def test_again_with_the_same_width(self):
        asked = ask(WIDE, keep(1, 1), hide(10), shown(), hide(10), shown(), more(10))
        self.assertEqual(asked[2:], [[3], asked[3], [3], asked[3], [3, 1, 3, 2, 1, 2, 3]])

    def test_after_the_own_cell_is_told_none_is_kept(self):
        asked = ask(WIDE, keep(1, 1), hide(10), tell(1, 1), known(), hide(10), known(), shown())
        self.assertEqual(asked[3:], [[5], [3, 1, 3, 2, 1, 2, 3], [0], [0], [2, 3, 1, 5, 1, 1, 1, 5, 1, 9, 1, 5, 1, 5]])


class HideRefused(unittest.TestCase):

    def test_all_is_as_it_was(self):
        asking = [shown(), known(), near(1), near(HIGHEST), sums(), more(6), *range_of_all(2, 3)]
        for before in (hide(0), hide(6), hide(10), hide(11)):
            for w in (12, 13, HIGHEST):
                with self.subTest(before=before, w=w):
                    asked = ask(WIDE, keep(1, 1), before, *asking, hide(w), *asking, keep(1, 1), tell(1, 1))
                    self.assertEqual(asked[3:15], asked[16:28])
                    self.assertEqual(asked[15], [-6])
                    self.assertEqual(asked[28:], [[-4], [5]])

    def test_one_row_or_one_column(self):
        for r, c in [(r, c) for r, c in SIZES if 1 in (r, c)]:
            with self.subTest(r=r, c=c):
                self.assertEqual(ask(table(r, c, [9] * (r * c)), keep(1, 1), hide(0), hide(1))[2:], [[0], [-6]])


class KeptWithOthers(unittest.TestCase):

    def test_keep_takes_it_and_then_it_is_kept_for_itself(self):
        asked = ask(SQUARE, keep(1, 1), hide(1), near(HIGHEST), keep(2, 2), keep(2, 2), near(HIGHEST), more(1),
                    hide(0), shown(), keep(2, 2), keep(1, 2))
        self.assertEqual(asked[2:], [[3], [1, 1, 1], [3, 6], [-4], [2, 1, 1, 2, 2], [2, 1, 2, 2, 1],
                                     [0], [2, 2, 0, 1, 2, 1, 3, 0], [-4], [2, 2]])

    def test_keep_leaves_the_others_as_they_are(self):
        asked = ask(SQUARE, keep(1, 1), hide(1), keep(1, 2), shown(), range_of(2, 1), tell(2, 1), tell(2, 1))
        self.assertEqual(asked[3:], [[0, 3], [2, 2, 0, 0, 0, 0], [1, 4], [3], [-3]])

    def test_keep_each_of_them(self):
        asked = ask(SQUARE, keep(1, 1), hide(3), keep(1, 1), keep(1, 2), keep(2, 1), keep(2, 2), hide(3), near(HIGHEST))
        self.assertEqual(asked[2:], [[3], [-4], [0, 3], [1, 4], [3, 6], [0], told(cells(2, 2))])

    def test_tell(self):
        asked = ask(SQUARE, keep(1, 1), hide(1), tell(1, 2), tell(1, 2), shown(), range_of(1, 1), known(), near(1),
                    keep(1, 2), keep(1, 2))
        self.assertEqual(asked[3:], [[2], [-3], [2, 2, 0, 1, 2, 0, 0], [1, 1], [3, 1, 1, 2, 1, 2, 2], [1, 1, 1],
                                     [0, 3], [-4]])

    def test_tell_every_cell(self):
        for own in cells(3, 3):
            tells = [tell(i, j) for i, j in cells(3, 3)]
            asked = ask(table(3, 3, list(range(1, 10))), keep(*own), hide(1), shown(), *tells, known())
            kept = [cell for cell in cells(3, 3) if cell in self.first_ring(own)]
            expected = [[number] if cell in kept else [-3] for number, cell in enumerate(cells(3, 3), start=1)]
            self.assertEqual(asked[4:], expected + [[0]])

    def first_ring(self, own):
        """This cell and those that hide keeps with it in a table that has no 0."""
        i, j = (2 if own[0] == 1 else 1), (2 if own[1] == 1 else 1)
        return [own, (i, j), (i, own[1]), (own[0], j)]

    def test_table_tells_all_cells(self):
        asked = ask(SQUARE, keep(1, 1), hide(1), table(2, 2, [4, 3, 2, 1]), shown(), known(), tell(1, 1), tell(2, 2),
                    more(9), keep(2, 2))
        self.assertEqual(asked[3:], [[10], [2, 2, 1, 4, 1, 3, 1, 2, 1, 1], [0], [-3], [-3], [0], [1, 1]])

    def test_table_of_another_size(self):
        asked = ask(SQUARE, keep(1, 1), hide(1), table(3, 1, [4, 3, 2]), shown(), hide(7), table(1, 1, [8]), shown())
        self.assertEqual(asked[3:], [[9], [3, 1, 1, 4, 1, 3, 1, 2], [0], [8], [1, 1, 1, 8]])

    def test_a_refused_table_leaves_them(self):
        asked = ask(SQUARE, keep(1, 1), hide(1), table(2, 2, [1, 2, 3, 100]), shown(), near(HIGHEST))
        self.assertEqual(asked[3:], [[-1], [2, 2, 0, 0, 0, 0], [1, 1, 1]])

    def test_near_speaks_of_own_cells_and_known_of_all(self):
        # Of the second row's cells, kept with others, one is told: what is left is known at once.
        asked = ask(SQUARE, keep(1, 1), keep(1, 2), hide(3), known(), near(4), tell(2, 1), known(), near(1), near(0))
        self.assertEqual(asked[4:], [[0], [2, 1, 1, 1, 2], [3], [3, 1, 1, 1, 2, 2, 2], [2, 1, 1, 1, 2], [0]])

    def test_own_cells_and_others_at_once(self):
        asked = ask(SQUARE, keep(1, 1), hide(1), *range_of_all(2, 2), shown(), fits([0, 3, 4, 3]), fits([3, 0, 1, 6]),
                    fits([4, 0, 0, 7]), first(1, 1, 3), first(1, 2, 3), first(2, 1, 1), first(2, 2, 6), first(2, 2, 7),
                    first(1, 2, 4))
        self.assertEqual(asked[3:], [[0, 3], [0, 3], [1, 4], [3, 6], [2, 2, 0, 0, 0, 0], [1], [1], [0],
                                     [3, 0, 1, 6], [0, 3, 4, 3], [3, 0, 1, 6], [3, 0, 1, 6], [-6], [-6]])


class KeptWithOthersAgainstTheSearch(unittest.TestCase):

    def test_all_calls_with_own_cells_and_others_at_once(self):
        source = random.Random(22)
        for r, c in SIZES:
            for turn in range(20):
                numbers = [source.choice((0, 0, 1, 1, 2)) for place in range(r * c)]
                own = source.sample(cells(r, c), source.randint(1, min(r * c, 3)))
                calls = [table(r, c, numbers)] + [keep(i, j) for i, j in own] + [hide(source.choice((1, 1, 2, 3)))]
                if source.random() < 0.5:
                    calls.append(tell(*source.choice(cells(r, c))))
                calls += range_of_all(r, c) + [known(), near(1), near(2), near(HIGHEST), shown(), fits(numbers), sums()]
                calls += [first(i, j, source.choice((0, 1, 2))) for i, j in source.sample(cells(r, c), min(r * c, 4))]
                calls += [keep(*source.choice(cells(r, c))), more(1), hide(2), shown()]
                self.assertEqual(ask(*calls), ask_plain(*calls), calls)


class HideWithNumbersTo99(unittest.TestCase):

    def test_an_answer_comes_and_no_own_cell_is_near(self):
        source = random.Random(23)
        for turn in range(20):
            numbers = [source.randint(0, 99) for place in range(12)]
            own = source.sample(cells(3, 4), source.choice((1, 2, 3)))
            for w in (1, 20, 60, 120):
                calls = [table(3, 4, numbers)] + [keep(i, j) for i, j in own] + [hide(w), near(w)]
                hidden, too_near = ask(*calls)[-2:]
                every = ask(table(3, 4, numbers), *keep_all(3, 4), *[range_of(i, j) for i, j in own])[13:]
                if min(high - low for low, high in every) < w:
                    self.assertEqual(hidden, [-6])
                else:
                    self.assertEqual(too_near, [0])
                    self.assertGreaterEqual(hidden[0], 1)


if __name__ == "__main__":
    unittest.main()
