"""What several tests use: calls by name, answers call by call, and ranges by a plain search."""

from cellskept.tables import answers

HIGHEST = 4294967295
SIZES = [(r, c) for r in (1, 2, 3) for c in (1, 2, 3, 4)]


def table(r, c, numbers):
    return [0, r, c, len(numbers)] + list(numbers)


def keep(i, j):
    return [1, i, j]


def tell(i, j):
    return [2, i, j]


def range_of(i, j):
    return [3, i, j]


def known():
    return [4]


def near(w):
    return [5, w]


def cells(r, c):
    return [(i, j) for i in range(1, r + 1) for j in range(1, c + 1)]


def ask(*calls):
    """The answers to these calls in one list, as one list a call."""
    flat = answers([number for call in calls for number in call])
    parts = []
    while flat:
        parts.append(flat[1:1 + flat[0]])
        flat = flat[1 + flat[0]:]
    return parts


def tables_that_may_be(r, c, numbers, kept):
    """Every table with these told cells and sums, by trying every number in every kept cell, row by row."""
    rows_left = [sum(numbers[i * c + j] for j in range(c) if kept[i * c + j]) for i in range(r)]
    columns_left = [sum(numbers[i * c + j] for i in range(r) if kept[i * c + j]) for j in range(c)]
    filled = []

    def fill():
        place = len(filled)
        if place and place % c == 0 and rows_left[place // c - 1]:
            return
        if place == r * c:
            if not any(columns_left):
                yield tuple(filled)
            return
        i, j = divmod(place, c)
        if not kept[place]:
            filled.append(numbers[place])
            yield from fill()
            filled.pop()
            return
        for number in range(min(rows_left[i], columns_left[j]) + 1):
            filled.append(number)
            rows_left[i] -= number
            columns_left[j] -= number
            yield from fill()
            columns_left[j] += number
            rows_left[i] += number
            filled.pop()

    return fill()


def searched_ranges(r, c, numbers, kept):
    """The range of every cell, row by row, over all tables that may be."""
    least = list(numbers)
    greatest = list(numbers)
    for found in tables_that_may_be(r, c, numbers, kept):
        least = [min(pair) for pair in zip(least, found)]
        greatest = [max(pair) for pair in zip(greatest, found)]
    return [list(ends) for ends in zip(least, greatest)]
