"""The calls about one table, and their answers."""

from cellskept.ranges import range_of_cell

# The numbers of the calls.
TABLE = 0
KEEP = 1
TELL = 2
RANGE_OF = 3
KNOWN = 4
NEAR = 5

# How many whole numbers stand behind a call's number; table is not here, since it has a row of numbers too.
WHOLE_NUMBERS = {1: 2, 2: 2, 3: 2, 4: 0, 5: 1}

# The refusals.
NO_SUCH_TABLE = -1
NO_SUCH_CELL = -1
NOT_KEPT = -3
KEPT_ALREADY = -4

MOST_ROWS = 3
MOST_COLUMNS = 4
MOST_IN_A_CELL = 99


class KeptTable:
    """A table, row by row, and which of its cells are kept; each method that is a call gives back its answer."""

    def __init__(self):
        self.rows = 1
        self.columns = 1
        self.numbers = [0]
        self.kept = [False]

    def table(self, r, c, numbers):
        if not may_be_table(r, c, numbers):
            return [NO_SUCH_TABLE]
        self.rows = r
        self.columns = c
        self.numbers = list(numbers)
        self.kept = [False] * len(numbers)
        return [sum(numbers)]

    def keep(self, i, j):
        if not self.has_cell(i, j):
            return [NO_SUCH_CELL]
        place = self.place_of(i, j)
        if self.kept[place]:
            return [KEPT_ALREADY]
        self.kept[place] = True
        return list(self.range_at(place))

    def tell(self, i, j):
        if not self.has_cell(i, j):
            return [NO_SUCH_CELL]
        place = self.place_of(i, j)
        if not self.kept[place]:
            return [NOT_KEPT]
        self.kept[place] = False
        return [self.numbers[place]]

    def range_of(self, i, j):
        if not self.has_cell(i, j):
            return [NO_SUCH_CELL]
        return list(self.range_at(self.place_of(i, j)))

    def known(self):
        return self.cells_told([place for place in self.kept_places() if self.width_at(place) == 0])

    def near(self, w):
        return self.cells_told([place for place in self.kept_places() if self.width_at(place) < w])

    def has_cell(self, i, j):
        return 1 <= i <= self.rows and 1 <= j <= self.columns

    def place_of(self, i, j):
        return (i - 1) * self.columns + j - 1

    def kept_places(self):
        return [place for place, is_kept in enumerate(self.kept) if is_kept]

    def range_at(self, place):
        if not self.kept[place]:
            return (self.numbers[place], self.numbers[place])
        return range_of_cell(self.columns, self.numbers, self.kept, place)

    def width_at(self, place):
        ends = self.range_at(place)
        return ends[1] - ends[0]

    def cells_told(self, places):
        """How many cells these are, then row and column of each, numbered from 1."""
        told = [len(places)]
        for place in places:
            told.append(place // self.columns + 1)
            told.append(place % self.columns + 1)
        return told


def may_be_table(r, c, numbers):
    if not 1 <= r <= MOST_ROWS or not 1 <= c <= MOST_COLUMNS:
        return False
    return len(numbers) == r * c and max(numbers) <= MOST_IN_A_CELL


def answers(calls):
    """The answers to all calls in the list, each with how many numbers it has before it."""
    table = KeptTable()
    answered = []
    start = 0
    while start < len(calls):
        end = end_of_call(calls, start)
        answer = answer_to(table, calls[start:end])
        answered.append(len(answer))
        answered.extend(answer)
        start = end
    return answered


def end_of_call(calls, start):
    """Where the call that starts here has ended, and the next one starts."""
    if calls[start] == TABLE:
        return start + 4 + calls[start + 3]
    return start + 1 + WHOLE_NUMBERS[calls[start]]


def answer_to(table, call):
    if call[0] == KEEP:
        return table.keep(call[1], call[2])
    if call[0] == TELL:
        return table.tell(call[1], call[2])
    if call[0] == RANGE_OF:
        return table.range_of(call[1], call[2])
    if call[0] == KNOWN:
        return table.known()
    if call[0] == NEAR:
        return table.near(call[1])
    # Only table is left: end_of_call found no layout for any other number.
    return table.table(call[1], call[2], call[4:])
