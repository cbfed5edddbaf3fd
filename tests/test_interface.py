"""The interface: how calls and answers are laid out in their lists."""

import unittest

from cellskept.tables import answers
from tests.helper import HIGHEST, cells, keep, near, range_of, table, tell


def flat(calls):
    return [number for call in calls for number in call]


class Layout(unittest.TestCase):

    def test_each_call_alone(self):
        self.assertEqual(answers([0, 1, 2, 2, 3, 4]), [1, 7])
        self.assertEqual(answers([1, 1, 1]), [2, 0, 0])
        self.assertEqual(answers([2, 1, 1]), [1, -3])
        self.assertEqual(answers([3, 1, 1]), [2, 0, 0])
        self.assertEqual(answers([4]), [1, 0])
        self.assertEqual(answers([5, 7]), [1, 0])

    def test_a_refusal_stands_alone(self):
        self.assertEqual(answers([0, 0, 1, 0]), [1, -1])
        self.assertEqual(answers([1, 2, 1]), [1, -1])
        self.assertEqual(answers([2, 0, 1]), [1, -1])
        self.assertEqual(answers([3, 1, HIGHEST]), [1, -1])
        self.assertEqual(answers([1, 1, 1, 1, 1, 1]), [2, 0, 0, 1, -4])

    def test_one_behind_another(self):
        calls = [0, 2, 2, 4, 1, 2, 3, 4, 1, 1, 1, 1, 2, 2, 4, 5, 1, 3, 2, 1, 2, 2, 2, 4]
        expected = [1, 10, 2, 1, 1, 2, 4, 4, 5, 2, 1, 1, 2, 2, 5, 2, 1, 1, 2, 2, 2, 3, 3, 1, 4, 3, 1, 1, 1]
        self.assertEqual(answers(calls), expected)

    def test_a_refused_table_is_passed_over_whole(self):
        # Its numbers look like calls, and there may be none or twenty of them.
        self.assertEqual(answers([0, 1, 1, 20] + [4] * 20 + [1, 1, 1]), [1, -1, 2, 0, 0])
        self.assertEqual(answers([0, 9, 9, 0, 4]), [1, -1, 1, 0])
        self.assertEqual(answers([0, 1, 1, 2, 1, 1, 4]), [1, -1, 1, 0])

    def test_forty_calls(self):
        self.assertEqual(answers([4] * 40), [1, 0] * 40)
        calls = [table(3, 4, [7] * 12)] + [keep(i, j) for i, j in cells(3, 4)] + [near(HIGHEST)] * 27
        answered = answers(flat(calls))
        every = [25, 12] + flat(cells(3, 4))
        self.assertEqual(len(calls), 40)
        self.assertEqual(answered[:2], [1, 84])
        self.assertEqual(answered[2 + 3 * 12:], every * 27)

    def test_forty_tables_of_twenty_numbers(self):
        calls = ([0, HIGHEST, HIGHEST, 20] + [HIGHEST] * 20) * 40
        self.assertEqual(len(calls), 960)
        self.assertEqual(answers(calls), [1, -1] * 40)

    def test_whole_numbers_are_ints_in_a_list(self):
        answered = answers(flat([table(2, 2, [1, 2, 3, 4]), keep(1, 1), keep(1, 1), range_of(1, 1), [4], near(3)]))
        self.assertIs(type(answered), list)
        self.assertTrue(all(type(number) is int for number in answered))


class NothingKept(unittest.TestCase):

    CALLS = flat([table(2, 2, [1, 2, 3, 4])] + [keep(i, j) for i, j in cells(2, 2)]
                 + [tell(1, 1), tell(1, 1), keep(1, 1), keep(1, 1), [4], near(4), table(4, 4, [1]), range_of(2, 2)])

    def test_what_is_handed_in_is_not_changed(self):
        handed = list(self.CALLS)
        answers(handed)
        self.assertEqual(handed, self.CALLS)

    def test_what_is_handed_in_is_never_written_to(self):
        class Watched(list):
            def refuse(self, *args, **kwargs):
                raise RuntimeError("changed")

            __setitem__ = __delitem__ = __iadd__ = __imul__ = refuse
            append = clear = extend = insert = pop = remove = reverse = sort = refuse

        self.assertEqual(answers(Watched(self.CALLS)), answers(list(self.CALLS)))

    def test_a_second_time_answers_as_the_first(self):
        first = answers(list(self.CALLS))
        self.assertEqual(answers(list(self.CALLS)), first)
        self.assertEqual(answers([3, 1, 1, 4, 3, 2, 2]), [2, 0, 0, 1, 0, 1, -1])
        self.assertEqual(answers(list(self.CALLS)), first)

    def test_what_is_given_back_is_the_callers_own(self):
        first = answers(list(self.CALLS))
        kept = list(first)
        first.clear()
        self.assertEqual(answers(list(self.CALLS)), kept)


if __name__ == "__main__":
    unittest.main()
