"""All twelve calls mixed in long lists, held against the plain search call by call."""

import random
import unittest

from cellskept.tables import answers
from tests.helper import (HIGHEST, SIZES, ask, ask_plain, cells, first, fits, flat, hide, keep, known, more, near,
                          range_of, shown, sums, table, tell)


class Maker:
    """Makes calls by chance, mostly right ones, about the table that stands."""

    def __init__(self, source):
        self.source = source
        self.r, self.c, self.numbers = 1, 1, [0]

    def cell(self):
        if self.source.random() < 0.05:
            return self.source.choice([(0, 1), (1, 0), (self.r + 1, 1), (1, self.c + 1), (HIGHEST, HIGHEST)])
        return self.source.choice(cells(self.r, self.c))

    def width(self):
        return self.source.choice((0, 1, 1, 1, 2, 2, 3, 4, 5, HIGHEST))

    def table(self):
        if self.source.random() < 0.3:
            wrong = [table(0, 1, []), table(4, 1, [1] * 4), table(1, 5, [1] * 5), table(2, 2, [1] * 3), table(1, 1, [100])]
            return self.source.choice(wrong + [table(HIGHEST, HIGHEST, [HIGHEST] * 20)])
        self.r, self.c = self.source.choice(SIZES)
        low = (0, 0, 1, 1, 2, 3) if self.r * self.c < 9 else (0, 0, 1, 1, 2)
        self.numbers = [self.source.choice(low) for place in range(self.r * self.c)]
        return table(self.r, self.c, self.numbers)

    def tried(self):
        """Numbers for fits: the table, perhaps with a ring moved, a number changed, or of another length."""
        numbers = list(self.numbers)
        chance = self.source.random()
        if chance < 0.5 and self.r > 1 and self.c > 1:
            up, down = self.source.sample(range(self.r), 2)
            left, right = self.source.sample(range(self.c), 2)
            for i, j, step in ((up, left, 1), (down, right, 1), (up, right, -1), (down, left, -1)):
                numbers[i * self.c + j] = max(0, numbers[i * self.c + j] + step)
        elif chance < 0.6:
            numbers[self.source.randrange(len(numbers))] = self.source.choice((0, 1, 100, HIGHEST))
        elif chance < 0.7:
            numbers = numbers[:-1] if chance < 0.65 else numbers + [0]
        return numbers

    def call(self):
        kind = self.source.choices(range(12), (1, 14, 4, 5, 5, 5, 5, 7, 4, 6, 8, 2))[0]
        if kind == 0:
            return self.table()
        if kind in (1, 2, 3):
            return (keep, tell, range_of)[kind - 1](*self.cell())
        if kind in (5, 6, 7):
            return (near, more, hide)[kind - 5](self.width())
        if kind == 9:
            return fits(self.tried())
        if kind == 10:
            return first(*self.cell(), self.source.choice((0, 0, 1, 1, 2, 3, 4, HIGHEST)))
        return {4: known, 8: shown, 11: sums}[kind]()

    def calls(self, count):
        return [self.table()] + [self.call() for number in range(count - 1)]


class Mixed(unittest.TestCase):

    def test_long_lists(self):
        source = random.Random(61)
        seen = {}
        for turn in range(150):
            calls = Maker(source).calls(40)
            asked = ask(*calls)
            self.assertEqual(len(asked), 40)
            for number, (call, answer, expected) in enumerate(zip(calls, asked, ask_plain(*calls))):
                self.assertEqual(answer, expected, (number, calls))
                seen.setdefault(call[0], set()).add(answer[0] if answer[0] < 0 else 0)
        # Every call came, with each of its refusals and without.
        self.assertEqual(seen, {0: {0, -1}, 1: {0, -1, -4}, 2: {0, -1, -3}, 3: {0, -1}, 4: {0}, 5: {0}, 6: {0, -6},
                                7: {0, -6}, 8: {0}, 9: {0}, 10: {0, -1, -3, -6}, 11: {0}})

    def test_short_lists(self):
        source = random.Random(62)
        for turn in range(200):
            calls = Maker(source).calls(source.randint(1, 6))
            self.assertEqual(ask(*calls), ask_plain(*calls), calls)

    def test_a_refusal_changes_no_later_answer(self):
        source = random.Random(63)
        for turn in range(60):
            calls = Maker(source).calls(40)
            asked = ask(*calls)
            kept = [number for number in range(40) if asked[number][0] >= 0]
            if kept:
                self.assertEqual(ask(*[calls[number] for number in kept]), [asked[number] for number in kept])

    def test_a_list_is_not_changed_and_a_second_time_answers_the_same(self):
        source = random.Random(64)
        for turn in range(40):
            handed = flat(Maker(source).calls(40))
            copied = list(handed)
            answered = answers(handed)
            self.assertEqual(handed, copied)
            self.assertEqual(answers(handed), answered)


if __name__ == "__main__":
    unittest.main()
