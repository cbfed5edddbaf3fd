"""What several tests use: calls by name, answers call by call, and all that is asked for by a plain search."""

from itertools import combinations

from cellskept.tables import answers

HIGHEST = 4294967295
SIZES = [(r, c) for r in (1, 2, 3) for c in (1, 2, 3, 4)]


def table(r, c, numbers):
    return [0, r, c, len(numbers)] + list(numbers)


def keep(i, j):
    return [1, i, j]


def tell(i, j):
    return [2, i, j]


def range_of(i, j):
    return [3, i, j]


def known():
    return [4]


def near(w):
    return [5, w]


def more(w):
    return [6, w]


def hide(w):
    return [7, w]


def shown():
    return [8]


def fits(numbers):
    return [9, len(numbers)] + list(numbers)


def first(i, j, v):
    return [10, i, j, v]


def sums():
    return [11]


def cells(r, c):
    return [(i, j) for i in range(1, r + 1) for j in range(1, c + 1)]


def keep_all(r, c):
    return [keep(i, j) for i, j in cells(r, c)]


def range_of_all(r, c):
    return [range_of(i, j) for i, j in cells(r, c)]


def wrong_cells(r, c):
    rows = [(i, j) for i in (0, r + 1, HIGHEST) for j in (1, c)]
    columns = [(i, j) for j in (0, c + 1, HIGHEST) for i in (1, r)]
    both = [(0, 0), (r + 1, c + 1), (HIGHEST, HIGHEST), (0, HIGHEST), (HIGHEST, 0)]
    return rows + columns + both


def flat(calls):
    return [number for call in calls for number in call]


def told(found):
    """Cells as an answer has them."""
    return [len(found)] + flat(found)


def sums_by_slices(r, c, numbers):
    return [sum(numbers[i * c:i * c + c]) for i in range(r)] + [sum(numbers[j::c]) for j in range(c)]


def ask(*calls):
    """The answers to these calls in one list, as one list a call."""
    answered = answers(flat(calls))
    parts = []
    while answered:
        parts.append(answered[1:1 + answered[0]])
        answered = answered[1 + answered[0]:]
    return parts


def tables_that_may_be(r, c, numbers, kept):
    """Every table with these told cells and sums, by trying every number in every kept cell, row by row."""
    rows_left = [sum(numbers[i * c + j] for j in range(c) if kept[i * c + j]) for i in range(r)]
    columns_left = [sum(numbers[i * c + j] for i in range(r) if kept[i * c + j]) for j in range(c)]
    filled = []

    def fill():
        place = len(filled)
        if place and place % c == 0 and rows_left[place // c - 1]:
            return
        if place == r * c:
            if not any(columns_left):
                yield tuple(filled)
            return
        i, j = divmod(place, c)
        if not kept[place]:
            filled.append(numbers[place])
            yield from fill()
            filled.pop()
            return
        for number in range(min(rows_left[i], columns_left[j]) + 1):
            filled.append(number)
            rows_left[i] -= number
            columns_left[j] -= number
            yield from fill()
            columns_left[j] += number
            rows_left[i] += number
            filled.pop()

    return fill()


def searched_ranges(r, c, numbers, kept):
    """The range of every cell, row by row, over all tables that may be."""
    least = list(numbers)
    greatest = list(numbers)
    for found in tables_that_may_be(r, c, numbers, kept):
        least = [min(pair) for pair in zip(least, found)]
        greatest = [max(pair) for pair in zip(greatest, found)]
    return [list(ends) for ends in zip(least, greatest)]


class Plain:
    """All twelve calls by their words: every table with the same sums is found once, and then looked through."""

    def __init__(self):
        self.set_table(1, 1, [0])

    def set_table(self, r, c, numbers):
        self.r, self.c, self.numbers = r, c, list(numbers)
        self.own, self.others = set(), set()
        self.tables = []
        for found in tables_that_may_be(r, c, numbers, [True] * (r * c)):
            changed = sum(1 << place for place in range(r * c) if found[place] != numbers[place])
            self.tables.append((changed, found))

    def may_be(self, kept):
        """The tables that may be while just these places are kept."""
        closed = sum(1 << place for place in range(self.r * self.c) if place not in kept)
        return [found for changed, found in self.tables if not changed & closed]

    def ends(self, place, kept):
        found = [numbers[place] for numbers in self.may_be(kept)]
        return [min(found), max(found)]

    def width(self, place, kept):
        low, high = self.ends(place, kept)
        return high - low

    def fewest(self, w):
        """The places of the fewest more, or None."""
        free = [place for place in range(self.r * self.c) if place not in self.own]
        spans = {place: self.spans(place) for place in self.own}
        for count in range(len(free) + 1):
            enough = [chosen for chosen in combinations(free, count) if self.all_wide(spans, chosen, w)]
            if enough:
                return list(min(enough))
        return None

    def spans(self, place):
        """The least and greatest number at this place, by which places a table has changed."""
        spans = {}
        for changed, found in self.tables:
            low, high = spans.get(changed, (found[place], found[place]))
            spans[changed] = (min(low, found[place]), max(high, found[place]))
        return spans

    def all_wide(self, spans, chosen, w):
        closed = sum(1 << place for place in range(self.r * self.c) if place not in self.own and place not in chosen)
        for by_changed in spans.values():
            ends = [ends for changed, ends in by_changed.items() if not changed & closed]
            if max(high for low, high in ends) - min(low for low, high in ends) < w:
                return False
        return True

    def kept(self):
        return self.own | self.others

    def listed(self, places):
        return told([(place // self.c + 1, place % self.c + 1) for place in sorted(places)])

    def answer(self, call):
        name, rest = call[0], call[1:]
        if name == 0:
            return self.table(rest[0], rest[1], rest[3:])
        if name in (1, 2, 3, 10):
            if tuple(rest[:2]) not in cells(self.r, self.c):
                return [-1]
            place = cells(self.r, self.c).index(tuple(rest[:2]))
            if name == 10:
                return self.first(place, rest[2])
            return (self.keep, self.tell, self.range_of)[name - 1](place)
        if name in (6, 7):
            return self.more_or_hide(name, rest[0])
        if name == 4:
            return self.listed([place for place in self.kept() if self.width(place, self.kept()) == 0])
        if name == 5:
            return self.listed([place for place in self.own if self.width(place, self.kept()) < rest[0]])
        if name == 8:
            pairs = [[0] if place in self.kept() else [1, number] for place, number in enumerate(self.numbers)]
            return [self.r, self.c] + flat(pairs)
        if name == 9:
            return [int(tuple(rest[1:]) in self.may_be(self.kept()))]
        return sums_by_slices(self.r, self.c, self.numbers)

    def table(self, r, c, numbers):
        if r not in (1, 2, 3) or c not in (1, 2, 3, 4) or len(numbers) != r * c or any(n > 99 for n in numbers):
            return [-1]
        self.set_table(r, c, numbers)
        return [sum(numbers)]

    def keep(self, place):
        if place in self.own:
            return [-4]
        self.others.discard(place)
        self.own.add(place)
        return self.ends(place, self.kept())

    def tell(self, place):
        if place not in self.kept():
            return [-3]
        self.own.discard(place)
        self.others.discard(place)
        return [self.numbers[place]]

    def range_of(self, place):
        return self.ends(place, self.kept())

    def more_or_hide(self, name, w):
        chosen = self.fewest(w)
        if chosen is None:
            return [-6]
        if name == 6:
            return self.listed(chosen)
        self.others = set(chosen)
        return [len(chosen)]

    def first(self, place, v):
        if place not in self.kept():
            return [-3]
        found = [numbers for numbers in self.may_be(self.kept()) if numbers[place] == v]
        return list(min(found)) if found else [-6]


def ask_plain(*calls):
    plain = Plain()
    return [plain.answer(call) for call in calls]


def pushed_range(r, c, numbers, kept, place):
    """A kept cell's range for numbers of any size: what can be pushed from it into it around rings of kept cells."""
    return [numbers[place] - pushed(r, c, numbers, kept, place, False),
            numbers[place] + pushed(r, c, numbers, kept, place, True)]


def pushed(r, c, numbers, kept, place, upward):
    """How far the cell can go up, or down, while the others go up and down against one another."""
    now = list(numbers)
    moved = 0
    # Row i's node is i, column j's is r + j. From a row to a column a cell goes down, from a column to a row up.
    start, goal = (place // c, r + place % c) if upward else (r + place % c, place // c)
    while True:
        way = ring(r, c, now, kept, place, start, goal)
        if way is None:
            return moved
        steps = [(a * c + b - r, -1) if a < r else (b * c + a - r, 1) for a, b in zip(way, way[1:])]
        falling = [now[cell] for cell, sign in steps if sign < 0]
        # Downward, the cell itself has no more than its number to give.
        amount = min(falling) if upward else min(falling + [numbers[place] - moved])
        if amount == 0:
            return moved
        for cell, sign in steps:
            now[cell] += sign * amount
        moved += amount


def ring(r, c, now, kept, place, start, goal):
    """The nodes on a shortest way from start to goal over other kept cells that can still move; None if none is."""
    before = {start: None}
    queue = [start]
    for node in queue:
        for other in range(r + c):
            if other in before or (node < r) == (other < r):
                continue
            cell = node * c + other - r if node < r else other * c + node - r
            if cell != place and kept[cell] and (node >= r or now[cell] > 0):
                before[other] = node
                queue.append(other)
    if goal not in before:
        return None
    way = [goal]
    while before[way[-1]] is not None:
        way.append(before[way[-1]])
    return way[::-1]
