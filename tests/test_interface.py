"""The interface: how calls and answers are laid out in their lists."""

import unittest

from cellskept.tables import answers
from tests.helper import (HIGHEST, SIZES, ask, cells, first, fits, flat, hide, keep, keep_all, known, more, near,
                          range_of, shown, sums, table, tell)


class Layout(unittest.TestCase):

    def test_each_call_alone(self):
        self.assertEqual(answers([0, 1, 2, 2, 3, 4]), [1, 7])
        self.assertEqual(answers([1, 1, 1]), [2, 0, 0])
        self.assertEqual(answers([2, 1, 1]), [1, -3])
        self.assertEqual(answers([3, 1, 1]), [2, 0, 0])
        self.assertEqual(answers([4]), [1, 0])
        self.assertEqual(answers([5, 7]), [1, 0])
        self.assertEqual(answers([6, 7]), [1, 0])
        self.assertEqual(answers([7, 7]), [1, 0])
        self.assertEqual(answers([8]), [4, 1, 1, 1, 0])
        self.assertEqual(answers([9, 1, 0]), [1, 1])
        self.assertEqual(answers([9, 0]), [1, 0])
        self.assertEqual(answers([10, 1, 1, 0]), [1, -3])
        self.assertEqual(answers([11]), [2, 0, 0])

    def test_how_many_numbers_each_answer_has(self):
        for r, c in SIZES:
            size = r * c
            before = [table(r, c, [4] * size), keep(1, 1)]
            asked = ask(*before, range_of(1, 1), known(), near(HIGHEST), more(0), hide(0), shown(), fits([4] * size),
                        first(1, 1, 4), sums(), tell(1, 1), *keep_all(r, c), known(), near(HIGHEST), shown(),
                        first(r, c, 4), sums())
            counts = [1, 2, 2, 3, 3, 1, 1, 2 + 1 + 2 * (size - 1), 1, size, r + c, 1] + [2] * size
            # Some of the cells may be known and some not, so of these only is asked that row and column are there.
            self.assertEqual([len(answer) for answer in asked[:len(counts)]], counts)
            rest = asked[len(counts):]
            self.assertEqual(len(rest[0]), 1 + 2 * rest[0][0])
            self.assertEqual([len(answer) for answer in rest[1:]], [1 + 2 * size, 2 + size, size, r + c])

    def test_a_refusal_stands_alone(self):
        self.assertEqual(answers([0, 0, 1, 0]), [1, -1])
        self.assertEqual(answers([1, 2, 1]), [1, -1])
        self.assertEqual(answers([2, 0, 1]), [1, -1])
        self.assertEqual(answers([3, 1, HIGHEST]), [1, -1])
        self.assertEqual(answers([1, 1, 1, 1, 1, 1]), [2, 0, 0, 1, -4])
        self.assertEqual(answers([1, 1, 1, 6, 1, 7, 1]), [2, 0, 0, 1, -6, 1, -6])
        self.assertEqual(answers([10, 2, 1, 0, 10, 1, 1, 0]), [1, -1, 1, -3])
        self.assertEqual(answers([1, 1, 1, 10, 1, 1, 1]), [2, 0, 0, 1, -6])

    def test_one_behind_another(self):
        calls = [0, 2, 2, 4, 1, 2, 3, 4, 1, 1, 1, 1, 2, 2, 4, 5, 1, 3, 2, 1, 2, 2, 2, 4]
        expected = [1, 10, 2, 1, 1, 2, 4, 4, 5, 2, 1, 1, 2, 2, 5, 2, 1, 1, 2, 2, 2, 3, 3, 1, 4, 3, 1, 1, 1]
        self.assertEqual(answers(calls), expected)

    def test_the_later_calls_one_behind_another(self):
        calls = [0, 2, 2, 4, 1, 2, 3, 4, 1, 1, 1, 6, 1, 7, 1, 8, 9, 4, 0, 3, 4, 3, 10, 1, 1, 3, 11, 7, 0, 8]
        expected = [1, 10, 2, 1, 1, 7, 3, 1, 2, 2, 1, 2, 2, 1, 3, 6, 2, 2, 0, 0, 0, 0, 1, 1, 4, 3, 0, 1, 6, 4, 3, 7, 4, 6,
                    1, 0, 9, 2, 2, 0, 1, 2, 1, 3, 1, 4]
        self.assertEqual(answers(calls), expected)

    def test_numbers_that_do_not_fit_are_passed_over_whole(self):
        self.assertEqual(answers([9, 20] + [8] * 20 + [11]), [1, 0, 2, 0, 0])
        self.assertEqual(answers([9, 0, 11]), [1, 0, 2, 0, 0])
        self.assertEqual(answers([9, 2, 0, 0, 9, 1, 0, 9, 1, 11, 4]), [1, 0, 1, 1, 1, 0, 1, 0])

    def test_a_refused_table_is_passed_over_whole(self):
        # Its numbers look like calls, and there may be none or twenty of them.
        self.assertEqual(answers([0, 1, 1, 20] + [4] * 20 + [1, 1, 1]), [1, -1, 2, 0, 0])
        self.assertEqual(answers([0, 9, 9, 0, 4]), [1, -1, 1, 0])
        self.assertEqual(answers([0, 1, 1, 2, 1, 1, 4]), [1, -1, 1, 0])

    def test_forty_calls(self):
        self.assertEqual(answers([4] * 40), [1, 0] * 40)
        calls = [table(3, 4, [7] * 12)] + [keep(i, j) for i, j in cells(3, 4)] + [near(HIGHEST)] * 27
        answered = answers(flat(calls))
        every = [25, 12] + flat(cells(3, 4))
        self.assertEqual(len(calls), 40)
        self.assertEqual(answered[:2], [1, 84])
        self.assertEqual(answered[2 + 3 * 12:], every * 27)

    def test_forty_tables_of_twenty_numbers(self):
        calls = ([0, HIGHEST, HIGHEST, 20] + [HIGHEST] * 20) * 40
        self.assertEqual(len(calls), 960)
        self.assertEqual(answers(calls), [1, -1] * 40)

    def test_forty_calls_of_the_later_kinds(self):
        self.assertEqual(answers([8] * 40), [4, 1, 1, 1, 0] * 40)
        self.assertEqual(answers([11] * 40), [2, 0, 0] * 40)
        self.assertEqual(answers([7, HIGHEST] * 40), [1, 0] * 40)
        self.assertEqual(answers(([9, 20] + [HIGHEST] * 20) * 40), [1, 0] * 40)
        self.assertEqual(answers([10, HIGHEST, HIGHEST, HIGHEST] * 40), [1, -1] * 40)
        calls = [table(2, 2, [1, 2, 3, 4]), keep(1, 1)] + [more(3), hide(3)] * 19
        self.assertEqual(len(calls), 40)
        self.assertEqual(answers(flat(calls)), [1, 10, 2, 1, 1] + [7, 3, 1, 2, 2, 1, 2, 2, 1, 3] * 19)

    def test_forty_calls_that_want_many_cells_of_the_largest_table(self):
        numbers = [99, 1, 3, 7, 2, 50, 40, 30, 5, 30, 20, 60]
        before = [table(3, 4, numbers), keep(1, 1)]
        # All cells together let it go from what the others cannot take to what its row and column have.
        low, high = ask(*before, *keep_all(3, 4)[1:], range_of(1, 1))[-1]
        calls = before + [more(high - low), hide(high - low)] * 9 + [first(1, 1, v) for v in range(low, low + 20)]
        asked = ask(*calls)
        self.assertEqual(len(asked), 40)
        self.assertEqual(asked[2:20:2], [asked[2]] * 9)
        self.assertEqual(asked[3:20:2], [[asked[2][0]]] * 9)
        self.assertEqual([answer[0] for answer in asked[20:20 + high - low + 1]], list(range(low, high + 1))[:20])

    def test_whole_numbers_are_ints_in_a_list(self):
        calls = [table(2, 2, [1, 2, 3, 4]), keep(1, 1), keep(1, 1), range_of(1, 1), known(), near(3), more(1), hide(1),
                 hide(9), shown(), fits([1, 2, 3, 4]), fits([]), first(1, 1, 0), first(1, 1, 9), sums(), tell(1, 2)]
        answered = answers(flat(calls))
        self.assertIs(type(answered), list)
        self.assertTrue(all(type(number) is int for number in answered))


class NothingKept(unittest.TestCase):

    CALLS = flat([table(2, 2, [1, 2, 3, 4])] + [keep(i, j) for i, j in cells(2, 2)]
                 + [tell(1, 1), tell(1, 1), keep(1, 1), keep(1, 1), known(), near(4), table(4, 4, [1]), range_of(2, 2),
                    first(2, 2, 6), fits([0, 3, 4, 3]), table(2, 3, [5] * 6), keep(1, 2), more(3), hide(3), shown(),
                    keep(1, 1), first(1, 1, 0), fits([5] * 6), sums(), tell(2, 1), hide(99), hide(0), more(99)])

    def test_what_is_handed_in_is_not_changed(self):
        handed = list(self.CALLS)
        answers(handed)
        self.assertEqual(handed, self.CALLS)

    def test_what_is_handed_in_is_never_written_to(self):
        class Watched(list):
            def refuse(self, *args, **kwargs):
                raise RuntimeError("changed")

            __setitem__ = __delitem__ = __iadd__ = __imul__ = refuse
            append = clear = extend = insert = pop = remove = reverse = sort = refuse

        self.assertEqual(answers(Watched(self.CALLS)), answers(list(self.CALLS)))

    def test_a_second_time_answers_as_the_first(self):
        first = answers(list(self.CALLS))
        self.assertEqual(answers(list(self.CALLS)), first)
        self.assertEqual(answers([3, 1, 1, 4, 3, 2, 2, 8, 11]), [2, 0, 0, 1, 0, 1, -1, 4, 1, 1, 1, 0, 2, 0, 0])
        self.assertEqual(answers(list(self.CALLS)), first)

    def test_what_is_given_back_is_the_callers_own(self):
        first = answers(list(self.CALLS))
        kept = list(first)
        first.clear()
        self.assertEqual(answers(list(self.CALLS)), kept)


if __name__ == "__main__":
    unittest.main()
