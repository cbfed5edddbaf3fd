"""The calls about one table, and their answers."""

from cellskept.fewest import fewest_more
from cellskept.first import first_table
from cellskept.ranges import left_in_columns, left_in_rows, range_of_cell

# The numbers of the calls.
TABLE = 0
KEEP = 1
TELL = 2
RANGE_OF = 3
KNOWN = 4
NEAR = 5
MORE = 6
HIDE = 7
SHOWN = 8
FITS = 9
FIRST = 10
SUMS = 11

# How many whole numbers stand behind a call's number, ahead of its row if it has one.
WHOLE_NUMBERS = {0: 2, 1: 2, 2: 2, 3: 2, 4: 0, 5: 1, 6: 1, 7: 1, 8: 0, 9: 0, 10: 3, 11: 0}
CALLS_WITH_A_ROW = (0, 9)

# The refusals.
NOT_A_TABLE = -1
NO_SUCH_CELL = -1
NOT_KEPT = -3
KEPT_ALREADY = -4
NOT_EVEN_WITH_ALL = -6
NO_SUCH_TABLE = -6

MOST_ROWS = 3
MOST_COLUMNS = 4
MOST_IN_A_CELL = 99

# What a cell is.
TOLD = 0
FOR_ITSELF = 1
WITH_OTHERS = 2


class KeptTable:
    """A table, row by row, and what each of its cells is; each method that is a call gives back its answer."""

    def __init__(self):
        self.rows = 1
        self.columns = 1
        self.numbers = [0]
        self.states = [TOLD]

    def table(self, r, c, numbers):
        if not may_be_table(r, c, numbers):
            return [NOT_A_TABLE]
        self.rows = r
        self.columns = c
        self.numbers = list(numbers)
        self.states = [TOLD] * len(numbers)
        return [sum(numbers)]

    def keep(self, i, j):
        if not self.has_cell(i, j):
            return [NO_SUCH_CELL]
        place = self.place_of(i, j)
        if self.states[place] == FOR_ITSELF:
            return [KEPT_ALREADY]
        self.states[place] = FOR_ITSELF
        return list(self.range_at(place))

    def tell(self, i, j):
        if not self.has_cell(i, j):
            return [NO_SUCH_CELL]
        place = self.place_of(i, j)
        if self.states[place] == TOLD:
            return [NOT_KEPT]
        self.states[place] = TOLD
        return [self.numbers[place]]

    def range_of(self, i, j):
        if not self.has_cell(i, j):
            return [NO_SUCH_CELL]
        return list(self.range_at(self.place_of(i, j)))

    def known(self):
        kept_places = [place for place, state in enumerate(self.states) if state != TOLD]
        return self.cells_told([place for place in kept_places if self.width_at(place) == 0])

    def near(self, w):
        own_places = [place for place, state in enumerate(self.states) if state == FOR_ITSELF]
        return self.cells_told([place for place in own_places if self.width_at(place) < w])

    def more(self, w):
        places = self.fewest_places(w)
        if places is None:
            return [NOT_EVEN_WITH_ALL]
        return self.cells_told(places)

    def hide(self, w):
        places = self.fewest_places(w)
        if places is None:
            return [NOT_EVEN_WITH_ALL]
        self.states = [FOR_ITSELF if state == FOR_ITSELF else TOLD for state in self.states]
        for place in places:
            self.states[place] = WITH_OTHERS
        return [len(places)]

    def shown(self):
        answer = [self.rows, self.columns]
        for place, number in enumerate(self.numbers):
            if self.states[place] == TOLD:
                answer.extend([1, number])
            else:
                answer.append(0)
        return answer

    def fits(self, numbers):
        if len(numbers) != len(self.numbers):
            return [0]
        for place, number in enumerate(numbers):
            if self.states[place] == TOLD and number != self.numbers[place]:
                return [0]
        return [1 if sums_of(self.columns, numbers) == self.sums() else 0]

    def first(self, i, j, v):
        if not self.has_cell(i, j):
            return [NO_SUCH_CELL]
        place = self.place_of(i, j)
        if self.states[place] == TOLD:
            return [NOT_KEPT]
        ends = self.range_at(place)
        # A cell has every number between its least and its greatest in some table, so only the ends are asked.
        if not ends[0] <= v <= ends[1]:
            return [NO_SUCH_TABLE]
        return first_table(self.columns, self.numbers, self.kept_cells(), place, v)

    def sums(self):
        return sums_of(self.columns, self.numbers)

    def has_cell(self, i, j):
        return 1 <= i <= self.rows and 1 <= j <= self.columns

    def place_of(self, i, j):
        return (i - 1) * self.columns + j - 1

    def kept_cells(self):
        """Beside each number whether it is kept, for itself or with others."""
        return [state != TOLD for state in self.states]

    def range_at(self, place):
        if self.states[place] == TOLD:
            return (self.numbers[place], self.numbers[place])
        return range_of_cell(self.columns, self.numbers, self.kept_cells(), place)

    def width_at(self, place):
        ends = self.range_at(place)
        return ends[1] - ends[0]

    def fewest_places(self, w):
        return fewest_more(self.columns, self.numbers, [state == FOR_ITSELF for state in self.states], w)

    def cells_told(self, places):
        """How many cells these are, then row and column of each, numbered from 1."""
        told = [len(places)]
        for place in places:
            told.append(place // self.columns + 1)
            told.append(place % self.columns + 1)
        return told


def may_be_table(r, c, numbers):
    if not 1 <= r <= MOST_ROWS or not 1 <= c <= MOST_COLUMNS:
        return False
    return len(numbers) == r * c and max(numbers) <= MOST_IN_A_CELL


def sums_of(columns, numbers):
    """The sum of each row, then of each column."""
    # With all cells kept, what a row or column has left is its sum.
    every = [True] * len(numbers)
    return left_in_rows(columns, numbers, every) + left_in_columns(columns, numbers, every)


def answers(calls):
    """The answers to all calls in the list, each with how many numbers it has before it."""
    table = KeptTable()
    answered = []
    start = 0
    while start < len(calls):
        end = end_of_call(calls, start)
        answer = answer_to(table, calls[start:end])
        answered.append(len(answer))
        answered.extend(answer)
        start = end
    return answered


def end_of_call(calls, start):
    """Where the call that starts here has ended, and the next one starts."""
    end = start + 1 + WHOLE_NUMBERS[calls[start]]
    if calls[start] in CALLS_WITH_A_ROW:
        end += 1 + calls[end]
    return end


def answer_to(table, call):
    if call[0] == TABLE:
        return table.table(call[1], call[2], call[4:])
    if call[0] == KEEP:
        return table.keep(call[1], call[2])
    if call[0] == TELL:
        return table.tell(call[1], call[2])
    if call[0] == RANGE_OF:
        return table.range_of(call[1], call[2])
    if call[0] == KNOWN:
        return table.known()
    if call[0] == NEAR:
        return table.near(call[1])
    if call[0] == MORE:
        return table.more(call[1])
    if call[0] == HIDE:
        return table.hide(call[1])
    if call[0] == SHOWN:
        return table.shown()
    if call[0] == FITS:
        return table.fits(call[2:])
    if call[0] == FIRST:
        return table.first(call[1], call[2], call[3])
    # Only sums is left: end_of_call found no layout for any other number.
    return table.sums()
